"""What several tests share: machines, odd values, and which error a call raises."""

from copy import deepcopy

from reachrows.errors import ReachError

MEMBERS = ("short", "reach", "long", "far", "leap", "load", "span", "word")

MACHINE = (1, 9, 3, 2, 60, 2, 20, 4)

# No size is another one's, so that a size that is mixed up with another one shows.
SORTED_OUT = (3, 40, 11, 13, 60, 7, 50, 5)


def machine_with(**members):
    """MACHINE with other members, by their names."""
    return tuple(members.get(name, size) for name, size in zip(MEMBERS, MACHINE))


def nested(kind, depth):
    """A value of so many lists, tuples or dicts in one another."""
    value = kind()
    for _ in range(depth - 1):
        value = {0: value} if kind is dict else kind([value])
    return value


def odd_values(depth=10):
    """Values of all kinds that stand for no machine, no row, no part, no book and no forms."""
    return [
        None, True, False, 0, 1, 2, -1, 10 ** 20, -10 ** 20,
        "", "0", "plain", "stop", "x" * 1000,
        (), (None,), (0,), ("stop",), ((),), ((((),),),), ("plain", ("stop", 1)), (0,) * 2000,
        [None], [True], [[]], ["stop", 1], [("stop", 1)], [[("stop", 1)]], [0] * 2000,
        {}, {0: ("stop", 1)}, {(): ()}, {None: None}, {"stop": 1}, {("stop", 1): [1]},
        {number: number for number in range(2000)},
        nested(tuple, depth), nested(list, depth), nested(dict, depth),
    ]


def odd_things(depth=10):
    """The odd values, and those that only a thing may be."""
    return odd_values(depth) + [{True: 1, "False": False}, [{False: ()}], ({True: ((),)},)]


def is_integer(value):
    """Whether the value is an int other than True and False."""
    return type(value) is int


def refusal(call, *args, **named):
    """The class of the error of reachrows that the call raises, or None if it raises none."""
    try:
        call(*args, **named)
    except ReachError as error:
        return type(error)
    return None


def changes(call, *args):
    """Whether the call, refused or not, changes one of its arguments."""
    before = deepcopy(args)
    refusal(call, *args)
    return repr(args) != repr(before)


def put(values, at, value):
    """The tuple with another value at one place."""
    return values[:at] + (value,) + values[at + 1:]


class Numbers:
    """An endless row of numbers that looks irregular and is the same in every run."""

    def __init__(self, seed):
        self.state = seed

    def below(self, many):
        """The next one, from 0 to many - 1."""
        self.state = (self.state * 6364136223846793005 + 1442695040888963407) % 2 ** 64
        return (self.state >> 33) % many

    def one_of(self, values):
        """One of the values."""
        return values[self.below(len(values))]
