"""What the tests hand in: anything, and what differs from a matrix by one thing."""

from rootrooms.errors import RoomError

PRIMES = [2, 3, 5, 7, 11, 13, 17, 19, 23, 29, 31, 37, 41, 43, 47, 53, 59, 61, 67, 71, 73, 79, 83, 89, 97]

# So long that Python refuses to write it out.
VERY_LONG = 10 ** 6000


def nested(thing, depth, kind):
    """Return the thing so many lists or tuples deep."""
    for _ in range(depth):
        thing = kind([thing])
    return thing


# Anything that is no whole number.
NO_WHOLES = [
    True, False, None, "", "a", "2", "7", "prime" * 1000,
    (), (2,), (2, 3), [], [2], [2, 3], [[], ()], ([],), (None, True, "x", (1, [2])),
    nested(5, 8, list), nested(5, 8, tuple), [True] * 3000, (False,) * 3000, [VERY_LONG],
]

# Anything that is no prime from 2 to 97.
NO_PRIMES = NO_WHOLES + [
    -97, -7, -3, -2, -1, 0, 1, 4, 6, 8, 9, 15, 21, 25, 49, 51, 57, 77, 87, 91, 95,
    96, 98, 99, 100, 101, 103, 9409, 2 ** 61 - 1, VERY_LONG, -VERY_LONG,
]

# Anything that is no whole number from 0 to 2,000.
NO_SIZES = NO_WHOLES + [-1, -2, -2000, 2001, 2002, 4000, 10 ** 9, VERY_LONG, -VERY_LONG]


# Each differs from GOOD, a matrix by 5, by one thing.
GOOD = (2, 3, ((0, 1, 2), (3, 4, 0)))
BAD = [
    # a number
    (2, 3, ((0, 1, 2), (3, 5, 0))),
    (2, 3, ((5, 1, 2), (3, 4, 0))),
    (2, 3, ((0, 1, 2), (3, 4, 5))),
    (2, 3, ((0, 1, 2), (3, 6, 0))),
    (2, 3, ((0, 1, -1), (3, 4, 0))),
    (2, 3, ((0, True, 2), (3, 4, 0))),
    (2, 3, ((False, 1, 2), (3, 4, 0))),
    (2, 3, ((0, 1, 2), (3, 4, False))),
    (2, 3, ((0, 1, 2), (3, None, 0))),
    (2, 3, ((0, "1", 2), (3, 4, 0))),
    (2, 3, ((0, 1, (2,)), (3, 4, 0))),
    (2, 3, ((0, 1, [2]), (3, 4, 0))),
    (2, 3, ((0, 1, VERY_LONG), (3, 4, 0))),
    (2, 3, ((0, 1, -VERY_LONG), (3, 4, 0))),
    # a row
    (2, 3, ((0, 1, 2, 0), (3, 4, 0))),
    (2, 3, ((0, 1, 2), (3, 4, 0, 0))),
    (2, 3, ((0, 1, 2), (3, 4))),
    (2, 3, ((0, 1), (3, 4, 0))),
    (2, 3, ((0, 1, 2), ())),
    (2, 3, ((0, 1, 2),)),
    (2, 3, ((0, 1, 2), (3, 4, 0), (0, 0, 0))),
    (2, 3, ((0, 1, 2), [3, 4, 0])),
    (2, 3, ([0, 1, 2], (3, 4, 0))),
    (2, 3, ((0, 1, 2), "340")),
    (2, 3, ((0, 1, 2), None)),
    (2, 3, ((0, 1, 2), 3)),
    # all rows
    (2, 3, [(0, 1, 2), (3, 4, 0)]),
    (2, 3, ()),
    (2, 3, None),
    (2, 3, 0),
    (2, 3, "ab"),
    (2, 3, (0, 1, 2, 3, 4, 0)),
    # a size
    (1, 3, ((0, 1, 2), (3, 4, 0))),
    (3, 3, ((0, 1, 2), (3, 4, 0))),
    (2, 2, ((0, 1, 2), (3, 4, 0))),
    (2, 4, ((0, 1, 2), (3, 4, 0))),
    (3, 2, ((0, 1, 2), (3, 4, 0))),
    (0, 3, ((0, 1, 2), (3, 4, 0))),
    (2, 0, ((0, 1, 2), (3, 4, 0))),
    (-2, 3, ((0, 1, 2), (3, 4, 0))),
    (2, -3, ((0, 1, 2), (3, 4, 0))),
    ("2", 3, ((0, 1, 2), (3, 4, 0))),
    (2, "3", ((0, 1, 2), (3, 4, 0))),
    (None, 3, ((0, 1, 2), (3, 4, 0))),
    (2, None, ((0, 1, 2), (3, 4, 0))),
    (2, [3], ((0, 1, 2), (3, 4, 0))),
    ((2,), 3, ((0, 1, 2), (3, 4, 0))),
    (VERY_LONG, 3, ((0, 1, 2), (3, 4, 0))),
    (2, VERY_LONG, ((0, 1, 2), (3, 4, 0))),
    # the parts
    (2, 3),
    (2, ((0, 1, 2), (3, 4, 0))),
    (((0, 1, 2), (3, 4, 0)),),
    (2, 3, ((0, 1, 2), (3, 4, 0)), ()),
    (2, 3, ((0, 1, 2), (3, 4, 0)), None),
    (2, 3, 1, ((0, 1, 2), (3, 4, 0))),
    (((0, 1, 2), (3, 4, 0)), 2, 3),
    [2, 3, ((0, 1, 2), (3, 4, 0))],
    ((2, 3, ((0, 1, 2), (3, 4, 0))),),
    ((0, 1, 2), (3, 4, 0)),
    # a truth in a size's place
    (True, 1, ((0,),)),
    (1, True, ((0,),)),
    (False, 0, ()),
    (0, False, ()),
    # sizes beyond the greatest
    (2001, 0, ((),) * 2001),
    (0, 2001, ()),
    (2001, 1, ((0,),) * 2001),
    (1, 2001, ((0,) * 2001,)),
    (-1, 0, ()),
    (0, -1, ()),
]

# Anything that is no matrix by 5.
NO_MATRICES = BAD + NO_WHOLES + [0, 1, 2, -1, VERY_LONG]


class Refusals:
    """Beside a TestCase: checks of what is refused."""

    def refused(self, error, function, *given, **named):
        """The call raises this very error, and no other one."""
        with self.assertRaises(RoomError) as caught:
            function(*given, **named)
        self.assertIs(type(caught.exception), error)
