"""Lights and buttons: lampbuttons.board.answers answers a list of calls about one board."""
