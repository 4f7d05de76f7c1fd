"""What the tests share: writing calls, parting answers, and a slow model of a board to compare with."""

from itertools import combinations

from lampbuttons.board import answers

ALL_PAIRS_OF_25 = list(combinations(range(25), 2))


def board_text(count, pairs):
    return "\n".join([str(count)] + [f"{a} {b}" for a, b in pairs])


def begin(text):
    row = list(text) if isinstance(text, bytes) else list(text.encode("ascii"))
    return [0, len(row)] + row


def press(lights, presses):
    return [1, lights, presses]


def free():
    return [2]


def ways(lights):
    return [3, lights]


def least(lights):
    return [4, lights]


def worst():
    return [5]


def odd():
    return [6]


def even():
    return [7]


def both():
    return [8]


def joined(calls):
    return [number for call in calls for number in call]


def parted(given):
    """The answers one by one; fails if the counts do not fit the list."""
    parts = []
    place = 0
    while place < len(given):
        size = given[place]
        part = given[place + 1:place + 1 + size]
        assert size >= 1 and len(part) == size, given
        parts.append(part)
        place += 1 + size
    return parts


def ask(*calls):
    """The answers to these calls, one list each."""
    parts = parted(answers(joined(calls)))
    assert len(parts) == len(calls), (calls, parts)
    return parts


def ask_board(count, pairs, *calls):
    """The answers to these calls behind a begin with this board."""
    parts = ask(begin(board_text(count, pairs)), *calls)
    assert parts[0] == [0], parts[0]
    return parts[1:]


def grid(height, width):
    pairs = []
    for light in range(height * width):
        if light % width + 1 < width:
            pairs.append((light, light + 1))
        if light + width < height * width:
            pairs.append((light, light + width))
    return pairs


def path(count):
    return [(light, light + 1) for light in range(count - 1)]


def complete(lights):
    return list(combinations(sorted(lights), 2))


def random_pairs(count, share, source):
    return [pair for pair in combinations(range(count), 2) if source.random() < share]


def lit_after(pairs, lights, presses):
    """Presses one button after another, each turning one light after another."""
    lit = {light for light in range(32) if lights >> light & 1}
    for button in range(32):
        if presses >> button & 1:
            lit ^= {button}
            for a, b in pairs:
                if button in (a, b):
                    lit ^= {a + b - button}
    return sum(1 << light for light in lit)


def effects(members, pairs):
    """For each set of these buttons the lights that it turns, by pressing every set."""
    inner = [pair for pair in pairs if pair[0] in members]
    found = {}
    for size in range(len(members) + 1):
        for chosen in combinations(members, size):
            buttons = sum(1 << button for button in chosen)
            found[buttons] = lit_after(inner, 0, buttons)
    return found


def putting_out(found, lights):
    """The sets that put the lights out, as (size, number), the least first."""
    return sorted((size_of(buttons), buttons) for buttons, turned in found.items() if turned == lights)


def size_of(members):
    return bin(members).count("1")


def fewest(found):
    """For all lights that can be put out how many buttons they take at the fewest, out of what each set turns."""
    sizes = {}
    for buttons, turned in found.items():
        sizes[turned] = min(size_of(buttons), sizes.get(turned, len(found)))
    return sizes


def worst_of(sizes):
    """The most buttons that any lights take, and the least number of the lights that take them."""
    most = max(sizes.values())
    return [most, min(lights for lights, size in sizes.items() if size == most)]


def neighbours_of(light, pairs):
    return [a + b - light for a, b in pairs if light in (a, b)]


def wrong_for_odd(lights, pairs, chosen):
    """Those who don't have an odd number of the set among them and their neighbours."""
    return [light for light in lights
            if sum(chosen >> other & 1 for other in [light] + neighbours_of(light, pairs)) % 2 != 1]


def wrong_for_parts(lights, pairs, chosen, outside):
    """Those in the set who don't have an even number of neighbours in it, and the others whose number of neighbours
    outside it leaves another rest than this one by 2."""
    wrong = []
    for light in lights:
        within = [other for other in neighbours_of(light, pairs) if chosen >> other & 1]
        beyond = [other for other in neighbours_of(light, pairs) if not chosen >> other & 1]
        if chosen >> light & 1:
            if len(within) % 2 != 0:
                wrong.append(light)
        elif len(beyond) % 2 != outside:
            wrong.append(light)
    return wrong


def wrong_for_even(lights, pairs, chosen):
    return wrong_for_parts(lights, pairs, chosen, 0)


def wrong_for_both(lights, pairs, chosen):
    return wrong_for_parts(lights, pairs, chosen, 1)


def such_sets(wrong_for, lights, pairs):
    """All sets of these lights with which nothing is wrong, the least number first."""
    found = [0]
    for light in sorted(lights):
        found += [other | 1 << light for other in found]
    return [chosen for chosen in found if not wrong_for(lights, pairs, chosen)]
