"""Lights and buttons: answers a list of calls about one board.

A set of lights or of buttons is a whole number: bit i stands for light i or for its button.
"""

BEGIN = 0
PRESS = 1
FREE = 2
WAYS = 3
LEAST = 4
WORST = 5
ODD = 6
EVEN = 7

# How many numbers a call has, its own number with them. Begin is not here: its text's length lies in the list.
CALL_SIZES = {1: 3, 2: 1, 3: 2, 4: 2, 5: 1, 6: 1, 7: 1, 8: 1}

NEWLINE = 10
BLANK = 32
DIGIT_ZERO = 48
DIGIT_NINE = 57

MOST_LIGHTS = 25
MOST_LIGHTS_OF_WORST = 16

# The sets of this many buttons are gone through once a board, those of the others once a call:
# with 25 lights that is 65536 sets once and 512 for each call, which keeps thousands of calls cheap.
# Worst looks at the first buttons alone, so there must be no fewer of them than the lights that it allows.
FIRST_BUTTONS = 16


def split_bytes(row, parting):
    """The parts of a row of bytes that lie between the parting bytes."""
    parts = []
    part = []
    for byte in row:
        if byte == parting:
            parts.append(part)
            part = []
        else:
            part.append(byte)
    parts.append(part)
    return parts


def text_lines(text):
    """The lines of a board's text; a text without a byte has none."""
    lines = split_bytes(text, NEWLINE)
    # A newline behind the last line ends that line and begins no other.
    if lines[-1] == []:
        lines.pop()
    return lines


def read_number(digits):
    """The number that these bytes write without a needless 0, or None."""
    if digits == []:
        return None
    if digits[0] == DIGIT_ZERO and len(digits) > 1:
        return None
    number = 0
    for digit in digits:
        if digit < DIGIT_ZERO or digit > DIGIT_NINE:
            return None
        number = number * 10 + digit - DIGIT_ZERO
    return number


def read_light_count(lines):
    """How many lights the first line tells, or None if it is missing or wrong."""
    if lines == []:
        return None
    count = read_number(lines[0])
    if count is None or count < 1 or count > MOST_LIGHTS:
        return None
    return count


def read_neighbours(line, count):
    """The two lights of a line, the lesser first, or None if it is wrong."""
    parts = split_bytes(line, BLANK)
    if len(parts) != 2:
        return None
    lesser = read_number(parts[0])
    greater = read_number(parts[1])
    if lesser is None or greater is None:
        return None
    if lesser >= greater or greater >= count:
        return None
    return (lesser, greater)


def are_neighbours(turns, pair):
    """Whether the two lights have been made neighbours."""
    return (turns[pair[0]] >> pair[1]) & 1 == 1


def make_neighbours(turns, pair):
    """Lets each of the two buttons turn the other's light too."""
    turns[pair[0]] = turns[pair[0]] | (1 << pair[1])
    turns[pair[1]] = turns[pair[1]] | (1 << pair[0])


def reduce_row(row, basis):
    """The least that members of the basis leave of the row: 0 if they make it up, and only then."""
    rest = row
    for member in basis:
        # The lesser of the two is the one without the member's highest bit, which no later member has.
        rest = min(rest, rest ^ member)
    return rest


def make_basis(rows):
    """As few rows as make up the same ones as these do."""
    basis = []
    for row in rows:
        rest = reduce_row(row, basis)
        if rest != 0:
            basis.append(rest)
    return basis


def first_making(rows, lights):
    """The least number of a set of the rows that together make up the lights, or None if there is none."""
    # Below its lights each row carries a bit of its own, so what is left tells by these bits which rows were taken.
    # The least that can be left has no lights if that can be, and of all such the least number below them.
    marked = [(row << MOST_LIGHTS) + (1 << place) for place, row in enumerate(rows)]
    rest = reduce_row(lights << MOST_LIGHTS, make_basis(marked))
    if rest >> MOST_LIGHTS != 0:
        return None
    return rest


def set_key(buttons, size):
    """The key of a set: of two sets the one with the lesser key has fewer buttons or else the lesser number.

    The keys of two sets that share no button add up to the key of both together.
    """
    return (size << MOST_LIGHTS) + buttons


def key_size(key):
    """How many buttons the set of this key has."""
    return key >> MOST_LIGHTS


def key_buttons(key):
    """The set of this key."""
    return key & ((1 << MOST_LIGHTS) - 1)


def least_keys(turns, first, beyond):
    """For all lights that buttons from first to below beyond put out, the least key of a set of these that does."""
    keys = {0: 0}
    for button in range(first, beyond):
        step = set_key(1 << button, 1)
        # Only what was known before this button is walked, so that no set has the button twice.
        known = list(keys.items())
        for lights, key in known:
            turned = lights ^ turns[button]
            if turned not in keys or key + step < keys[turned]:
                keys[turned] = key + step
    return keys


def least_joined_key(lights, first_keys, other_keys):
    """The least key of a set that puts out the lights, part by the first buttons, part by the others, or None."""
    best = None
    for turned, key in other_keys.items():
        rest = first_keys.get(lights ^ turned)
        if rest is not None and (best is None or key + rest < best):
            best = key + rest
    return best


def worst_lights(keys):
    """Of all lights that have a key those whose key has the most buttons, the least number of several."""
    worst = 0
    most = 0
    for lights, key in keys.items():
        size = key_size(key)
        if size > most or (size == most and lights < worst):
            worst = lights
            most = size
    return worst


class Board:
    """One board; each method for a call gives back the numbers that the call answers."""

    def __init__(self):
        self.turns = []
        self.basis = []
        self.first_keys = None
        self.other_keys = None
        self.worst_found = None

    def begin(self, text):
        """Sets up the board that the text tells."""
        lines = text_lines(text)
        count = read_light_count(lines)
        if count is None:
            return [-101]
        turns = [1 << light for light in range(count)]
        for number, line in enumerate(lines[1:], start=2):
            pair = read_neighbours(line, count)
            if pair is None or are_neighbours(turns, pair):
                return [-100 - number]
            make_neighbours(turns, pair)
        self.turns = turns
        self.basis = make_basis(turns)
        return [0]

    def has_strange_bit(self, members):
        """Whether a set has a bit that is no light's."""
        return members >> len(self.turns) != 0

    def quiet_exponent(self):
        """The k of the two to the k quiet sets."""
        return len(self.turns) - len(self.basis)

    def every_light(self):
        """The set of all lights."""
        return (1 << len(self.turns)) - 1

    def lit_after(self, lights, presses):
        """The lights that are lit after the presses, if these were lit ahead of them."""
        lit = lights
        for button, turned in enumerate(self.turns):
            if (presses >> button) & 1 == 1:
                lit = lit ^ turned
        return lit

    def press(self, lights, presses):
        """The lights that are lit after the presses."""
        if self.has_strange_bit(lights) or self.has_strange_bit(presses):
            return [-2]
        return [0, self.lit_after(lights, presses)]

    def free(self):
        """The k of the two to the k quiet sets."""
        return [self.quiet_exponent()]

    def ways(self, lights):
        """How many sets put the lights out."""
        if self.has_strange_bit(lights):
            return [-2]
        if reduce_row(lights, self.basis) != 0:
            return [0]
        # Any two sets that put out the same lights differ by a quiet set.
        return [1 << self.quiet_exponent()]

    def prepare_keys(self):
        """Finds the least keys of both parts of the buttons, once a board and only if they are asked for."""
        if self.first_keys is None:
            count = len(self.turns)
            middle = min(count, FIRST_BUTTONS)
            self.first_keys = least_keys(self.turns, 0, middle)
            self.other_keys = least_keys(self.turns, middle, count)

    def least(self, lights):
        """The size of the least set that puts the lights out, and the set."""
        if self.has_strange_bit(lights):
            return [-2]
        self.prepare_keys()
        key = least_joined_key(lights, self.first_keys, self.other_keys)
        if key is None:
            return [-3]
        return [key_size(key), key_buttons(key)]

    def worst(self):
        """The most buttons that lights take which can be put out, and the first such lights."""
        if len(self.turns) > MOST_LIGHTS_OF_WORST:
            return [-2]
        # All sets are gone through, so what was found is kept for the next time.
        if self.worst_found is None:
            self.prepare_keys()
            self.worst_found = worst_lights(self.first_keys)
        return [key_size(self.first_keys[self.worst_found]), self.worst_found]

    def first_odd_among(self, chosen):
        """The first set of which each chosen light has an odd number among it and its neighbours,
        and each other light an even number among its neighbours alone.
        """
        rows = []
        for light, turned in enumerate(self.turns):
            # Lights are neighbours of one another, so this is both whom the light counts and who counts the light.
            rows.append(turned if (chosen >> light) & 1 == 1 else turned ^ (1 << light))
        found = first_making(rows, chosen)
        if found is None:
            return [-3]
        return [0, found]

    def with_even_neighbours(self):
        """The lights that have an even number of neighbours."""
        # All buttons together turn a light once for itself and once for each neighbour.
        return self.lit_after(0, self.every_light())

    def odd(self):
        """The first set of which everyone has an odd number among them and their neighbours."""
        return self.first_odd_among(self.every_light())

    def even(self):
        """The first set whose members have an even number of neighbours in it, all others an even number outside."""
        # Who has an even number of neighbours must have an even number of them in the set, being in it or not.
        # Who has an odd number must have an even number there if in it, else an odd one: odd in both cases once the
        # light itself is counted.
        return self.first_odd_among(self.every_light() ^ self.with_even_neighbours())

    def both(self):
        """The first set whose members have an even number of neighbours in it, all others an odd number outside."""
        # The others need what they must not have for even, so here those with an even number of neighbours and those
        # with an odd number stand in each other's place.
        return self.first_odd_among(self.with_even_neighbours())


def call_size(calls, place):
    """How many numbers the call at this place has."""
    if calls[place] == BEGIN:
        return 2 + calls[place + 1]
    return CALL_SIZES[calls[place]]


def answer_call(board, call):
    """The numbers that one call answers."""
    if call[0] == BEGIN:
        return board.begin(call[2:])
    if call[0] == PRESS:
        return board.press(call[1], call[2])
    if call[0] == FREE:
        return board.free()
    if call[0] == WAYS:
        return board.ways(call[1])
    if call[0] == LEAST:
        return board.least(call[1])
    if call[0] == WORST:
        return board.worst()
    if call[0] == ODD:
        return board.odd()
    if call[0] == EVEN:
        return board.even()
    return board.both()


def answers(calls):
    """For each call, in order, how many numbers it answers, then these."""
    board = Board()
    given = []
    place = 0
    while place < len(calls):
        beyond = place + call_size(calls, place)
        answer = answer_call(board, calls[place:beyond])
        given.append(len(answer))
        given.extend(answer)
        place = beyond
    return given
