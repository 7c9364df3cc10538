"""A battery kept: when its switch may be closed, which cells are bled, how much may be asked or put in."""
