"""Rows at the limit of 400 stretches and beyond, found by search, most on a star of eight arms of 100 steps.

Each march is a pair (arm, steps): so many steps towards the tip of that arm.
"""

SCALE = 10 ** 7
STAR = [(0, arm, 100) for arm in range(1, 9)]
LONG_STAR = [(a, b, length * SCALE) for a, b, length in STAR]

EXACTLY_400 = [
    (4, 9), (3, 18), (2, 8), (3, 21), (1, 10), (4, 10), (1, 10), (7, 30), (1, 24), (2, 1),
    (3, 2), (6, 21), (2, 18), (1, 19), (3, 30), (3, 27), (6, 8), (4, 22), (0, 18), (7, 33),
]
EXACTLY_401 = [
    (2, 24), (3, 1), (3, 12), (5, 11), (1, 22), (5, 5), (2, 20), (6, 6), (5, 33), (3, 33), (2, 11),
    (2, 11), (6, 2), (2, 17), (5, 29), (4, 6), (5, 9), (1, 20), (6, 17), (1, 5), (5, 23),
]
EXACTLY_630 = [
    (2, 16), (7, 19), (0, 30), (1, 24), (6, 28), (3, 13), (1, 11), (4, 4), (5, 2),
    (2, 22), (4, 27), (2, 15), (3, 4), (4, 24), (3, 9), (0, 4), (7, 6), (1, 14),
]
# Done once, these have fewer than 260 stretches; done twice, exactly 400 and exactly 401.
TWICE_400 = [
    (0, 9), (7, 11), (6, 1), (4, 10), (4, 19), (5, 8), (3, 5),
    (3, 4), (0, 2), (1, 8), (0, 21), (7, 2), (6, 9), (6, 1),
]
TWICE_401 = [(4, 13), (4, 1), (2, 13), (4, 8), (1, 9), (5, 7), (2, 20), (3, 9), (3, 10), (0, 3)]
# On ten arms of 50 steps, these leave a stretch for each of the 500 steps.
SMALL_STAR = [(0, arm, 50) for arm in range(1, 11)]
ONE_FOR_EACH_STEP = [
    (6, 1), (9, 2), (0, 3), (5, 7), (2, 3), (2, 8), (0, 17), (0, 1), (3, 1), (6, 6), (5, 15), (1, 9),
    (8, 15), (0, 17), (1, 13), (8, 4), (6, 3), (9, 15), (0, 13), (2, 1), (8, 2), (3, 3), (2, 14), (5, 9),
]
# Move everyone to the tip of the first arm.
GATHER = [(0, 100), (0, 100)]


def tip_marches(pairs, scale=1):
    """The marches (road, number, steps) of pairs, also on the star with all lengths scaled."""
    return [(arm, 100 * scale, steps * scale) for arm, steps in pairs]


def scaled(stretches):
    """Rows (road, least, greatest, first, last) on the star as they are on the long one."""
    return [
        (road, least * SCALE, greatest * SCALE, (first[0], first[1] * SCALE), (last[0], last[1] * SCALE))
        for road, least, greatest, first, last in stretches
    ]
