import unittest

from cranktables.checks import blind, seen_at, suspects
from cranktables.engines import Engine
from cranktables.errors import NoChecks, NoShown, NoSlip, NoTurns, TooMany
from tests.makers import any_columns, known, modulus_of, plain_column, plain_numbers, some_engines
from tests.test_slips import NO_TURNS, no_slips, some_slips
from tests.test_turning import plain_half
from tests.things import NO_WHOLES, Grumpy, Refusing, dice

NO_CHECKS = [thing for thing in NO_WHOLES if thing.__class__ is not list] + [
    5, (0,), (0, 1, 2), ((0, 1),), [2, 1], [0, 2, 1], [1, 1], [0, 0], [0, 5, 5, 6], [5, 0], [199, 200, 200], [200, 199],
    [-1], [-1, 0], [0, -1], [201], [0, 201], [0, 200, 201], [10 ** 59], [-10 ** 59], list(range(41)), list(range(60)),
    list(range(160, 201)), list(range(160, 202)), [True], [False], [False, True], [0, True], [True, 2], [0, 1, False], [None],
    [0, None], ["0"], [0, "1"], [0.0], [0, 1.0], [1, 2.5], [(0,)], [[0]], [0, [1]], [Grumpy()], [0, Grumpy()], [1j], range(3),
]


def numbers_at(engine, slip, last):
    """What column 0's number is at 0, 1 .. last turns, turned turn by turn; slip None is none."""
    base, wheels, modulus = engine.base(), engine.wheels(), modulus_of(engine)
    numbers, told = plain_numbers(engine), []
    for m in range(last + 1):
        if slip is not None and slip[0] == m:
            turn, k, wheel, by = slip
            figures = list(plain_column(numbers[k], base, wheels))
            at = len(figures) - 1 - wheel
            figures[at] = (figures[at] + by) % base
            numbers[k] = sum(figure * base ** place for place, figure in enumerate(reversed(figures)))
        told.append(numbers[0])
        numbers = [number % modulus for number in plain_half(plain_half(numbers, 1, 1), 2, 1)]
    return told


def plain_seen(engine, slip, checks):
    last = max(checks, default=0)
    right, wrong = numbers_at(engine, None, last), numbers_at(engine, slip, last)
    for m in checks:
        if right[m] != wrong[m]:
            return m
    return None


def all_slips(engine):
    return [
        (k, wheel, by)
        for k in range(len(engine.columns())) for wheel in range(engine.wheels()) for by in range(1, engine.base())
    ]


def sized(source, base, wheels, many):
    return Engine(base, any_columns(source, base, wheels, many))


class TestSeenAt(unittest.TestCase, Refusing):
    def check(self, engine, slip, checks):
        before, kept = known(engine), list(checks)
        told, wanted = seen_at(engine, slip, checks), plain_seen(engine, slip, checks)
        self.assertEqual(told, wanted, (slip, checks))
        self.assertIs(type(told), type(wanted))
        self.assertEqual(checks, kept)
        self.assertEqual(seen_at(engine, slip, checks), told)
        self.assertEqual(known(engine), before)
        return told

    def test_plain_ones(self):
        engine = Engine(10, [(0, 0, 0), (0, 0, 1), (0, 0, 2)])
        self.assertEqual(seen_at(engine, (3, 0, 0, 1), [0, 1, 2, 3, 4]), 3)
        self.assertEqual(seen_at(engine, (3, 1, 0, 1), [0, 1, 2, 3, 4]), 4)
        self.assertEqual(seen_at(engine, (3, 2, 0, 1), [0, 1, 2, 3, 4, 5]), 5)
        self.assertEqual(seen_at(engine, (3, 2, 0, 1), [0, 1, 2, 3, 4]), None)
        self.assertEqual(seen_at(engine, (0, 0, 0, 1), [0]), 0)
        self.assertEqual(seen_at(engine, (0, 0, 0, 1), []), None)
        self.assertEqual(seen_at(engine, (200, 0, 0, 1), [0, 200]), 200)
        self.assertEqual(seen_at(engine, (200, 1, 0, 1), [0, 200]), None)

    def test_seen_later_than_it_could_be(self):
        # Column 0 is wrong by 100 a turn, which ten turns make a multiple of M.
        engine = Engine(10, [(0, 0, 0), (0, 0, 1), (0, 0, 2)])
        self.assertEqual(seen_at(engine, (0, 1, 2, 1), [0, 10, 20, 30, 31, 32]), 31)
        self.assertEqual(seen_at(engine, (0, 1, 2, 1), [0, 10, 20, 30, 40]), None)
        self.assertEqual(seen_at(engine, (3, 1, 2, 1), [3, 10, 20]), 10)
        self.assertEqual(seen_at(engine, (3, 1, 2, 1), [3, 13, 23, 24]), 24)

    def test_checks_at_each_turn_show_it(self):
        for engine in some_engines(141, bases=(2, 10), sizes=(1, 3)):
            for k in range(len(engine.columns())):
                for turn in (0, 1, 17):
                    for by in (1, engine.base() - 1):
                        first = turn if k == 0 else turn + k // 2 + 1
                        for wheel in (0, engine.wheels() - 1):
                            slip = (turn, k, wheel, by)
                            self.assertEqual(self.check(engine, slip, list(range(40))), first)
                            self.assertEqual(self.check(engine, slip, list(range(first))), None)
                            self.assertEqual(self.check(engine, slip, [first]), first)

    def test_some_checks(self):
        source = dice(142)
        found = set()
        for engine in some_engines(143, bases=(2, 3, 10), sizes=(1, 2, 40)):
            for slip in list(some_slips(source, engine))[::4]:
                many = source.choice((0, 1, 2, 5, 40))
                checks = sorted(source.sample(range(201), many))
                if many > 1 and source.randrange(2):
                    checks[0], checks[-1] = 0, 200
                told = self.check(engine, slip, checks)
                ready = [m for m in checks if m >= slip[0] + (slip[1] // 2 + 1 if slip[1] else 0)]
                found.add("never, though ready" if told is None and ready else "never" if told is None else
                          "at once" if told == ready[0] else "later")
        self.assertEqual(found, {"never, though ready", "never", "at once", "later"})

    def test_refusals(self):
        for engine in (Engine(10, [(1, 2, 3), (4, 5, 6)]), Engine(2, [(0,)]), Engine(16, [(3,) * 40] * 8)):
            before, wrong = known(engine), [(NoSlip, 1, no_slips(engine)), (NoChecks, 2, NO_CHECKS)]
            self.refused_in_order(seen_at, [engine, (0, 0, 0, 1), list(range(160, 200))], wrong)
            self.assertEqual(known(engine), before)

    def test_lists_stay_as_they_were(self):
        checks = [0, 2, 1]
        self.refused(NoChecks, seen_at, Engine(10, [(1, 2)]), (0, 0, 0, 1), checks)
        self.refused(NoChecks, blind, Engine(10, [(1, 2)]), 0, checks)
        self.assertEqual(checks, [0, 2, 1])


class TestBlind(unittest.TestCase, Refusing):
    def check(self, engine, turn, checks):
        before, kept = known(engine), list(checks)
        told = blind(engine, turn, checks)
        wanted = [part for part in all_slips(engine) if plain_seen(engine, (turn, *part), checks) is None]
        self.assertEqual(told, wanted, (turn, checks))
        self.assertEqual(told, sorted(told))
        self.assertIs(type(told), list)
        self.assertTrue(all(type(part) is tuple for part in told))
        self.assertEqual(checks, kept)
        told.append("more")
        self.assertEqual(blind(engine, turn, checks), wanted)
        self.assertEqual(known(engine), before)
        return wanted

    def test_plain_ones(self):
        engine = Engine(3, [(0, 0), (0, 1)])
        self.assertEqual(blind(engine, 0, [0]), [(1, 0, 1), (1, 0, 2), (1, 1, 1), (1, 1, 2)])
        self.assertEqual(blind(engine, 0, [1]), [])
        self.assertEqual(blind(engine, 0, [0, 3]), [(1, 1, 1), (1, 1, 2)])
        self.assertEqual(blind(engine, 0, [0, 3, 9]), [(1, 1, 1), (1, 1, 2)])
        self.assertEqual(blind(engine, 0, [0, 3, 4]), [])
        self.assertEqual(blind(engine, 4, [0, 3]), all_slips(engine))
        self.assertEqual(blind(engine, 0, []), all_slips(engine))

    def test_exactly_so_many(self):
        source = dice(144)
        for base, wheels, many in ((2, 40, 5), (2, 25, 8), (3, 25, 4), (6, 5, 8), (6, 40, 1), (11, 20, 1), (11, 5, 4)):
            self.assertEqual((base - 1) * wheels * many, 200)
            engine = sized(source, base, wheels, many)
            self.assertEqual(len(blind(engine, 7, [])), 200)
            self.check(engine, 7, [2, 9, 11])
            self.check(engine, 200, [0, 200])

    def test_too_many(self):
        source = dice(145)
        for base, wheels, many in (
            (2, 29, 7), (8, 29, 1), (2, 40, 6), (2, 26, 8), (3, 26, 4), (6, 6, 8), (7, 40, 1), (7, 5, 8), (11, 21, 1), (11, 5, 5),
            (12, 20, 1), (16, 40, 8), (16, 14, 1), (16, 2, 7),
        ):
            self.assertGreater((base - 1) * wheels * many, 200)
            engine = sized(source, base, wheels, many)
            for turn, checks in ((0, []), (200, [0, 200]), (5, list(range(40)))):
                self.refused(TooMany, blind, engine, turn, checks)
                self.refused(NoTurns, blind, engine, 201, checks)
                self.refused(NoTurns, blind, engine, -1, [2, 1])
                self.refused(NoChecks, blind, engine, turn, [2, 1])

    def test_some_engines(self):
        source = dice(146)
        sizes = set()
        for base, wheels, many in (
            (2, 1, 8), (2, 2, 3), (2, 5, 5), (3, 1, 1), (3, 2, 6), (4, 1, 8), (5, 3, 3), (8, 2, 4), (10, 2, 5), (10, 1, 3),
            (10, 3, 7), (12, 1, 4), (16, 1, 8), (16, 3, 4), (16, 13, 1),
        ):
            for again in range(4):
                engine = sized(source, base, wheels, many)
                turn = source.choice((0, 0, 1, 5, 190, 200))
                checks = sorted(source.sample(range(201), source.choice((0, 1, 2, 4, 40))))
                whole = len(self.check(engine, turn, checks)) / len(all_slips(engine))
                sizes.add(0 if whole == 0 else 2 if whole == 1 else 1)
                near = [m for m in (turn, turn + 2, turn + 4) if m <= 200]
                self.check(engine, turn, near)
        self.assertEqual(sizes, {0, 1, 2})

    def test_no_slip_is_hidden_from_checks_at_each_turn(self):
        source = dice(147)
        for base, wheels, many in ((2, 3, 8), (10, 2, 8), (16, 1, 8), (7, 4, 8)):
            for turn in (0, 30, 160):
                engine = sized(source, base, wheels, many)
                self.assertEqual(self.check(engine, turn, list(range(turn, turn + 6))), [])

    def test_refusals(self):
        for engine in (Engine(10, [(1, 2, 3), (4, 5, 6)]), Engine(2, [(0,)])):
            before, wrong = known(engine), [(NoTurns, 1, NO_TURNS), (NoChecks, 2, NO_CHECKS)]
            self.refused_in_order(blind, [engine, 200, list(range(161, 201))], wrong)
            self.assertEqual(known(engine), before)


def no_shown(engine):
    """What is no list of what the engine's column 0 showed."""
    base, wheels = engine.base(), engine.wheels()
    right = (0,) * wheels
    made = [thing for thing in NO_WHOLES if thing.__class__ is not list] + [
        5, (0, right), ((0, right),), [[0, right]], [0, right], [(0,)], [(right,)], [(0, right, 0)], [(right, 0)], [right, right],
        [(0, right), None], [(0, right), 1], [(m, right) for m in range(13)], [(m, right) for m in range(21)], [()], [None],
        [(1, right), (0, right)], [(0, right), (0, right)], [(0, right), (3, right), (2, right)], [(3, right), (3, right)],
        [(0, right), (21, right)], [Grumpy()], [(0, right), Grumpy()], {0: right}, "00", [(0, right), (1, right), (1, right)],
    ]
    for turn in NO_WHOLES + [-1, -2, 21, 22, 200, 10 ** 59, -10 ** 59]:
        made += [[(turn, right)], [(0, right), (turn, right)]]
    for column in [thing for thing in NO_WHOLES if thing.__class__ is not tuple] + [
        list(right), right + (0,), right[1:], (base,) * wheels, (-1,) + right[1:], right[1:] + (base,), right[1:] + (True,),
        (False,) + right[1:], right[1:] + (None,), right[1:] + ("0",), right[1:] + (0.0,), right[1:] + ((0,),), (),
        right[1:] + (Grumpy(),), 0, (0,) * 41,
    ]:
        made += [[(0, column)], [(0, right), (20, column)], [(20, column)]]
    return made


class TestSuspects(unittest.TestCase, Refusing):
    def plain_suspects(self, engine, shown):
        turns = [turn for turn, column in shown]
        last = max(turns, default=0)
        base, wheels = engine.base(), engine.wheels()

        def as_shown(slip):
            numbers = numbers_at(engine, slip, last)
            return all(plain_column(numbers[turn], base, wheels) == column for turn, column in shown)

        if as_shown(None):
            return None
        slips = [(turn, *part) for turn in range(last + 1) for part in all_slips(engine)]
        return [slip for slip in slips if as_shown(slip)]

    def showing(self, engine, slip, turns):
        numbers = numbers_at(engine, slip, max(turns, default=0))
        return [(turn, plain_column(numbers[turn], engine.base(), engine.wheels())) for turn in turns]

    def check(self, engine, shown):
        before, kept = known(engine), list(shown)
        told, wanted = suspects(engine, shown), self.plain_suspects(engine, shown)
        self.assertEqual(told, wanted, shown)
        self.assertEqual(shown, kept)
        if wanted is not None:
            self.assertIs(type(told), list)
            self.assertTrue(all(type(part) is tuple for part in told))
            self.assertEqual(told, sorted(told))
            told.append("more")
        self.assertEqual(suspects(engine, shown), wanted)
        self.assertEqual(known(engine), before)
        return wanted

    def test_plain_ones(self):
        engine = Engine(10, [(0, 0), (0, 1), (0, 2)])
        self.assertEqual(suspects(engine, []), None)
        self.assertEqual(suspects(engine, [(0, (0, 0)), (3, (0, 9))]), None)
        self.assertEqual(suspects(engine, [(0, (0, 3))]), [(0, 0, 0, 3)])
        self.assertEqual(suspects(engine, [(0, (1, 3))]), [])
        self.assertEqual(suspects(engine, [(0, (0, 0)), (1, (0, 2))]), [(0, 1, 0, 1), (1, 0, 0, 1)])
        self.assertEqual(suspects(engine, [(1, (0, 2)), (2, (0, 5))]), [(0, 0, 0, 1), (1, 0, 0, 1)])
        self.assertEqual(suspects(engine, [(1, (0, 2)), (2, (0, 6))]), [(0, 1, 0, 1)])
        self.assertEqual(suspects(engine, [(0, (0, 1)), (1, (0, 1))]), [])

    def test_turns_up_to_the_last_one_shown(self):
        engine = Engine(2, [(0, 0), (0, 1)])
        # A slip behind the last shown turn itself is told, too.
        self.assertEqual(suspects(engine, [(19, (1, 1)), (20, (0, 1))]), [(20, 0, 0, 1)])
        self.assertEqual(self.check(engine, [(19, (1, 1)), (20, (1, 0))])[-1], (20, 0, 1, 1))
        self.assertEqual(suspects(engine, [(0, (0, 1))]), [(0, 0, 0, 1)])

    def test_what_slips_show(self):
        source = dice(148)
        sizes = set()
        for base, wheels, many in (
            (2, 1, 1), (2, 1, 8), (2, 3, 5), (3, 2, 3), (3, 1, 8), (4, 2, 2), (7, 1, 4), (10, 2, 3), (10, 3, 1), (16, 1, 6),
        ):
            for again in range(4):
                engine = sized(source, base, wheels, many)
                turns = sorted(source.sample(range(21), source.choice((0, 1, 2, 3, 12))))
                slip = (source.randint(0, max(turns, default=0)), *source.choice(all_slips(engine)))
                told = self.check(engine, self.showing(engine, slip, turns))
                if told is not None:
                    self.assertIn(slip, told)
                    sizes.add(min(len(told), 2))
                self.assertIs(self.check(engine, self.showing(engine, None, turns)), None)
        self.assertEqual(sizes, {1, 2})

    def test_what_no_slip_shows(self):
        source = dice(149)
        found = set()
        for base, wheels, many in ((2, 2, 3), (3, 3, 4), (10, 2, 2), (16, 1, 4)):
            for again in range(8):
                engine = sized(source, base, wheels, many)
                turns = sorted(source.sample(range(21), source.choice((1, 2, 4, 12))))
                columns = any_columns(source, base, wheels, len(turns))
                told = self.check(engine, list(zip(turns, columns)))
                found.add(None if told is None else min(len(told), 2))
        self.assertLessEqual({0, 2}, found)

    def test_exactly_so_many(self):
        source = dice(150)
        for base, wheels, many in ((2, 20, 5), (3, 10, 5), (6, 20, 1), (6, 5, 4), (11, 2, 5), (11, 10, 1)):
            self.assertEqual((base - 1) * wheels * many, 100)
            engine = sized(source, base, wheels, many)
            slip = (2, *source.choice(all_slips(engine)))
            self.assertIn(slip, self.check(engine, self.showing(engine, slip, [0, 3, 6, 7, 9])))
            self.assertIs(suspects(engine, []), None)

    def test_too_many(self):
        source = dice(151)
        for base, wheels, many in (
            (3, 17, 3), (2, 34, 3), (2, 21, 5), (2, 13, 8), (7, 17, 1), (11, 11, 1), (12, 2, 5), (16, 7, 1), (11, 5, 4), (16, 40, 8),
        ):
            self.assertGreater((base - 1) * wheels * many, 100)
            engine = sized(source, base, wheels, many)
            self.refused(TooMany, suspects, engine, [])
            self.refused(TooMany, suspects, engine, self.showing(engine, None, [0, 1, 2]))
            self.refused(TooMany, suspects, engine, self.showing(engine, (0, 0, 0, 1), [0, 1, 2]))
            for thing in no_shown(engine):
                self.refused(NoShown, suspects, engine, thing)

    def test_refusals(self):
        for engine in (Engine(10, [(1, 2, 3), (4, 5, 6)]), Engine(2, [(0,)]), Engine(16, [(3,)] * 6)):
            before = known(engine)
            shown = self.showing(engine, None, list(range(9, 21)))
            self.refused_in_order(suspects, [engine, shown], [(NoShown, 1, no_shown(engine))])
            self.assertEqual(known(engine), before)

    def test_lists_stay_as_they_were(self):
        shown = [(1, (0, 0)), (0, [1, 2])]
        self.refused(NoShown, suspects, Engine(10, [(1, 2)]), shown)
        self.assertEqual(shown, [(1, (0, 0)), (0, [1, 2])])


if __name__ == "__main__":
    unittest.main()
