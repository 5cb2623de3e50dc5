"""What more than one test of cells and worlds needs."""


def frozen(value):
    """All that an object holds, as a value that can be compared."""
    if isinstance(value, (list, tuple)):
        return [frozen(one) for one in value]
    if isinstance(value, dict):
        return {key: frozen(one) for key, one in value.items()}
    return frozen(vars(value)) if hasattr(value, "__dict__") else value


def some_packet(chance):
    """A packet of 1 to 196 bytes."""
    return [chance.randrange(256) for _ in range(chance.choice((1, 2, 10, 60, 196)))]


def some_act(chance, bearers, stay):
    """An act of a world with so many bearers whose present stay has this number."""
    way = chance.randrange(2)
    return chance.choices(
        [
            ("down", chance.randrange(bearers), some_packet(chance)),
            ("up", chance.randrange(bearers), some_packet(chance)),
            ("send", way, chance.choice((0, 1, 2, 3, 5, 9, 64, 250, 1000))),
            ("arrive", way),
            ("lose", way),
            ("double", way),
            ("letter", chance.randrange(max(0, stay - 2), stay + 1), way),
            ("tick",),
            ("stay",),
            ("write",),
            ("bill", chance.randrange(12)),
        ],
        [10, 10, 25, 20, 4, 4, 15, 6, 1, 2, 3],
    )[0]
