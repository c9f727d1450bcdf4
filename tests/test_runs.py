import unittest

from gridlocks import runs
from gridlocks.errors import BadTurn, GridError
from gridlocks.pairs import Pair
from gridlocks.runs import Run
from gridlocks.ways import places, word
from samples import held, judge, sample_pairs

WORK = ("work",)
SHORT = (("take", 0), ("leave", 0))
NESTED = (("take", 0), ("take", 1), ("leave", 1), ("leave", 0))
CROSSED = (("take", 1), ("take", 0), ("leave", 0), ("leave", 1))
EXAMPLE = Pair(SHORT, SHORT)
STUCK = Pair(NESTED, CROSSED)
# Behind both first steps, work can be done, but nothing leads to the end any more.
LATE = Pair((("take", 0), WORK, ("take", 1), ("leave", 1), ("leave", 0)), CROSSED)
EMPTY = Pair((), ())
LONGEST = Pair((WORK,) * 12, (WORK,) * 12)

NO_TURNS = [
    None, True, False, -1, 2, 10 ** 30, -10 ** 30, "", "0", "1", (), (0,), (1,), [], [0], {}, {0: 1},
]


def led(pair, way):
    run = Run(pair)
    for which in way:
        run.go(which)
    return run


def state(run):
    return (run.pair, run.way, len(run), run.place(), run.holds(), run.can_go())


class RunCase(unittest.TestCase):
    def assert_refused(self, run, value):
        """Check that a turn is refused, and leaves the run as it was."""
        ahead = state(run)
        with self.assertRaises(BadTurn) as caught:
            run.go(value)
        self.assertIsInstance(caught.exception, GridError)
        self.assertEqual(state(run), ahead)


class AllWaysTest(RunCase):
    def test_all_ways_are_led_and_taken_back(self):
        for pair in sample_pairs()[::199] + [EXAMPLE, STUCK, LATE, EMPTY]:
            seen = judge(pair)[3]
            run = Run(pair)
            self.lead(run, (), seen)
            self.assertEqual(run.way, ())
            self.assertIs(run.undo(), False)

    def lead(self, run, way, seen):
        """Let a run go on in all ways, and take back each step behind it."""
        i, j = seen[way]
        expected = (tuple(sorted(held(run.pair.one, i))), tuple(sorted(held(run.pair.other, j))))
        turns = [which for which in (0, 1) if way + (which,) in seen]
        self.assertEqual(state(run), (run.pair, way, len(way), (i, j), expected, turns))
        for which in (0, 1):
            if which in turns:
                self.assertEqual(run.go(which), word(run.pair, way + (which,)))
                self.lead(run, way + (which,), seen)
                self.assertIs(run.undo(), True)
                self.assertEqual(run.way, way)
            else:
                self.assert_refused(run, which)


class GoTest(RunCase):
    def test_example(self):
        run = Run(EXAMPLE)
        found = [run.go(0), run.holds(), run.can_go(), run.go(0), run.go(1), run.way, run.place()]
        self.assertEqual(found, ["free", ((0,), ()), [0], "free", "free", (0, 0, 1), (2, 1)])
        self.assertEqual([run.undo(), len(run)], [True, 2])
        self.assert_refused(run, 0)

    def test_new_run_has_done_nothing(self):
        for pair in (EXAMPLE, STUCK, LONGEST):
            self.assertEqual(state(Run(pair)), (pair, (), 0, (0, 0), ((), ()), [0, 1]))
        self.assertEqual(state(Run(EMPTY)), (EMPTY, (), 0, (0, 0), ((), ()), []))
        self.assertEqual(Run(Pair(SHORT, ())).can_go(), [0])
        self.assertEqual(Run(Pair((), SHORT)).can_go(), [1])

    def test_all_words(self):
        run = Run(LATE)
        self.assertEqual([run.go(1), run.go(0), run.go(0)], ["free", "sure", "stuck"])
        run = Run(EXAMPLE)
        self.assertEqual([run.go(which) for which in (1, 1, 0, 0)], ["free", "free", "free", "done"])

    def test_run_that_gets_stuck(self):
        run = led(STUCK, (0, 1))
        self.assertEqual(state(run), (STUCK, (0, 1), 2, (1, 1), ((0,), (1,)), []))
        self.assert_refused(run, 0)
        self.assert_refused(run, 1)
        self.assertIs(run.undo(), True)
        self.assertEqual(run.can_go(), [0, 1])
        self.assertEqual([run.go(0), run.can_go(), run.holds()], ["free", [0], ((0, 1), ())])

    def test_run_at_the_end(self):
        run = led(EXAMPLE, (0, 0, 1, 1))
        self.assertEqual(state(run), (EXAMPLE, (0, 0, 1, 1), 4, (2, 2), ((), ()), []))
        self.assert_refused(run, 0)
        self.assert_refused(run, 1)
        run = led(LONGEST, (0, 1) * 12)
        self.assertEqual((len(run), run.place(), run.can_go()), (24, (12, 12), []))
        self.assert_refused(run, 0)

    def test_empty_programs(self):
        run = Run(EMPTY)
        self.assert_refused(run, 0)
        self.assert_refused(run, 1)
        run = Run(Pair((), SHORT))
        self.assert_refused(run, 0)
        self.assertEqual([run.go(1), run.go(1)], ["free", "done"])

    def test_no_turn(self):
        for value in NO_TURNS:
            for way in ((), (0,), (0, 0, 1, 1)):
                self.assert_refused(led(EXAMPLE, way), value)
            self.assert_refused(Run(EMPTY), value)
            self.assert_refused(led(STUCK, (0, 1)), value)

    def test_goes_on_behind_a_refused_turn(self):
        run = led(EXAMPLE, (0,))
        self.assert_refused(run, 1)
        self.assert_refused(run, None)
        self.assertEqual([run.go(0), run.go(1), run.go(1)], ["free", "free", "done"])
        self.assertEqual(run.way, (0, 0, 1, 1))


class HoldsTest(unittest.TestCase):
    def test_locks_ascend_and_not_by_time(self):
        one = (("take", 3), ("take", 1), ("take", 2), ("leave", 1), ("leave", 3), ("leave", 2))
        run = Run(Pair(one, (WORK, ("take", 0), ("leave", 0))))
        found = []
        for which in (0, 0, 0, 1, 1, 0, 0, 0, 1):
            run.go(which)
            found.append(run.holds())
        self.assertEqual(found, [
            ((3,), ()), ((1, 3), ()), ((1, 2, 3), ()), ((1, 2, 3), ()), ((1, 2, 3), (0,)),
            ((2, 3), (0,)), ((2,), (0,)), ((), (0,)), ((), ()),
        ])

    def test_both_hold(self):
        run = led(STUCK, (1, 0))
        self.assertEqual(run.holds(), ((0,), (1,)))

    def test_a_lock_taken_again(self):
        run = led(Pair(SHORT + SHORT, ()), (0, 0, 0))
        self.assertEqual(run.holds(), ((0,), ()))


class UndoTest(unittest.TestCase):
    def test_without_steps(self):
        run = Run(EXAMPLE)
        for _ in range(3):
            self.assertIs(run.undo(), False)
            self.assertEqual(state(run), (EXAMPLE, (), 0, (0, 0), ((), ()), [0, 1]))

    def test_back_to_the_beginning(self):
        run = led(EXAMPLE, (1, 1, 0, 0))
        ways = []
        while run.undo():
            ways.append(run.way)
        self.assertEqual(ways, [(1, 1, 0), (1, 1), (1,), ()])
        self.assertIs(run.undo(), False)
        self.assertEqual(run.go(0), "free")
        self.assertEqual(run.way, (0,))


class CopyTest(unittest.TestCase):
    def test_stands_as_the_run(self):
        for way in ((), (0,), (0, 1)):
            run = led(STUCK, way)
            twin = run.copy()
            self.assertIsInstance(twin, Run)
            self.assertIsNot(twin, run)
            self.assertEqual(state(twin), state(run))

    def test_goes_on_by_itself(self):
        run = led(STUCK, (0,))
        twin = run.copy()
        self.assertEqual(twin.go(0), "free")
        self.assertEqual((run.way, twin.way), ((0,), (0, 0)))
        self.assertEqual(run.go(1), "stuck")
        self.assertEqual((run.way, twin.way), ((0, 1), (0, 0)))
        self.assertEqual((run.can_go(), twin.can_go()), ([], [0]))

    def test_undo_by_itself(self):
        run = led(STUCK, (0, 0))
        twin = run.copy()
        self.assertIs(run.undo(), True)
        self.assertEqual((len(run), len(twin)), (1, 2))
        third = run.copy()
        self.assertIs(third.undo(), True)
        self.assertIs(third.undo(), False)
        self.assertEqual((len(run), len(twin), len(third)), (1, 2, 0))


class GeneralTest(unittest.TestCase):
    def test_returned_lists_are_new_and_calls_repeat(self):
        run = led(EXAMPLE, (0, 0))
        first = run.can_go()
        first.clear()
        self.assertEqual(run.can_go(), [1])
        self.assertEqual(state(run), state(run))

    def test_arguments_are_not_modified(self):
        wrong = [0, {"a": [1]}]
        with self.assertRaises(BadTurn):
            Run(EXAMPLE).go(wrong)
        self.assertEqual(wrong, [0, {"a": [1]}])
        pair = Pair(SHORT, SHORT)
        led(pair, (0, 0, 1)).undo()
        self.assertEqual(pair, EXAMPLE)
        self.assertEqual(places(pair, (0,)), [(0, 0), (1, 0)])

    def test_runs_of_one_pair_are_independent(self):
        first, second = Run(EXAMPLE), Run(EXAMPLE)
        first.go(0)
        self.assertEqual((first.way, second.way), ((0,), ()))

    def test_what_was_returned_stays_as_it_was(self):
        run = led(EXAMPLE, (0,))
        way, place, locks, turns = run.way, run.place(), run.holds(), run.can_go()
        run.go(0)
        self.assertEqual([way, place, locks, turns], [(0,), (1, 0), ((0,), ()), [0]])

    def test_equal_to_nothing_of_another_kind(self):
        run = led(EXAMPLE, (0,))
        for value in (None, 0, 1, "", (0,), [0], EXAMPLE, {}):
            self.assertFalse(run == value)
            self.assertTrue(run != value)

    def test_kinds_of_values(self):
        run = led(EXAMPLE, (0,))
        for value in (run.way, run.place(), run.holds(), *run.holds()):
            self.assertIs(type(value), tuple)
        self.assertIs(type(run.can_go()), list)
        self.assertIs(type(run.pair), Pair)
        self.assertIs(type(len(run)), int)

    def test_properties_cannot_be_assigned(self):
        run = led(EXAMPLE, (0,))
        with self.assertRaises(AttributeError):
            run.pair = STUCK
        with self.assertRaises(AttributeError):
            run.way = ()
        self.assertEqual((run.pair, run.way), (EXAMPLE, (0,)))

    def test_interface_is_defined_where_it_is_listed(self):
        self.assertEqual(Run.__module__, "gridlocks.runs")
        self.assertIs(runs.Run, Run)
        for name in ("__init__", "__len__", "pair", "way", "go", "place", "holds", "can_go", "undo", "copy"):
            self.assertIn(name, vars(Run))
        self.assertEqual(Run(pair=EXAMPLE).go(which=0), "free")


if __name__ == "__main__":
    unittest.main()
