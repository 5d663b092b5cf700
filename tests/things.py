"""Things of all kinds that may be handed in where True or False is told of anything."""

FORTY_FIGURES = 10 ** 40 - 1


def within(depth, maker, core):
    """Core, depth times put into a list or tuple that maker makes."""
    for turn in range(depth):
        core = maker(core)
    return core


def deep_things():
    makers = (
        lambda x: [x], lambda x: (x,), lambda x: (x, 0), lambda x: (0, x), lambda x: [x, 0],
        lambda x: [0, x], lambda x: (x, x, 0), lambda x: (x, x),
    )
    # The last two double with each depth.
    for depth in (1, 2, 3, 20, 39, 40):
        for maker in makers if depth < 10 else makers[:-2]:
            for core in ((), [], 5, -5, True, False, None, "a", (1, 2), FORTY_FIGURES):
                yield within(depth, maker, core)


NO_NUMBERS = (
    True, False, None, "", "0", "1", "-1", "a", "abc", " ~", "1" * 400,
    [], [0], [1, 2], (), (0,), (1, "a"), (None, None), [None], [[]], ((),), ([],), [()],
)
