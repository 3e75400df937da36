"""What the tests hand in: things of any kind, numbers of any size, and how they are refused."""

import itertools
import random

from cranktables.errors import CrankError


class Grumpy:
    """A thing that fails wherever it is compared, counted, gone through or tested."""

    def fail(self, *handed):
        raise RuntimeError("nobody should ask this")

    __eq__ = __ne__ = __lt__ = __le__ = __gt__ = __ge__ = fail
    __len__ = __iter__ = __bool__ = __contains__ = __getitem__ = fail
    __str__ = __repr__ = __hash__ = __index__ = __int__ = fail


NO_WHOLES = [
    None, True, False, "", "1", "2", "ten", "-3", b"2", 2.0, 2.5, float("nan"), float("inf"), 1j,
    [], [2], [1, 2], (), (2,), (1, 2), {}, {2: 2}, {2}, frozenset((2,)), range(3), object(), Grumpy(),
    int, len, ValueError("2"),
]


def dice(seed):
    """A source of numbers that tells the same at each run."""
    return random.Random(seed)


def long_number(source, most_figures=60):
    """A whole number of up to so many figures, above 0, below it, or 0."""
    size = source.randint(1, most_figures)
    return source.choice((1, -1)) * source.randrange(10 ** size)


class Refusing:
    """Added to a test case: looks closely at what is raised."""

    def refused(self, error, function, *handed):
        with self.assertRaises(CrankError) as caught:
            function(*handed)
        self.assertIs(type(caught.exception), error)
        return caught.exception

    def refused_in_order(self, function, right, wrong):
        """Hand in each choice of wrong things for right ones: the first named refusal comes.

        wrong tells, in the order of the interface, (error, place, things) each.
        """
        function(*right)
        for error, place, things in wrong:
            for thing in things:
                self.refused(error, function, *right[:place], thing, *right[place + 1:])
        for size in range(2, len(wrong) + 1):
            for chosen in itertools.combinations(wrong, size):
                for several in zip(*(itertools.islice(itertools.cycle(row[2]), 97) for row in chosen)):
                    handed = list(right)
                    for (error, place, things), thing in zip(chosen, several):
                        handed[place] = thing
                    self.refused(chosen[0][0], function, *handed)
