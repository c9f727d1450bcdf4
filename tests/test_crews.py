import itertools
import math
import unittest

from gridlocks import crews
from gridlocks.crews import (
    Crew, count_rows, count_stuck_rows, least_stuck, standing_of, stuck_standings,
)
from gridlocks.errors import BadCrew, BadProgram, BadWay, GridError, TooMany
from gridlocks.pairs import Pair
from gridlocks.ways import count_stuck, count_ways, shortest_stuck, stuck
from samples import judge_rows, sample_crews, sample_pairs

WORK = ("work",)
SHORT = (("take", 0), ("leave", 0))
NESTED = (("take", 0), ("take", 1), ("leave", 1), ("leave", 0))
CROSSED = (("take", 1), ("take", 0), ("leave", 0), ("leave", 1))


def waits(mine, next_one):
    """A program of a ring: it has one lock, and needs the next one."""
    return (("take", mine), ("take", next_one), ("leave", next_one), ("leave", mine))


RING = Crew((waits(0, 1), waits(1, 2), waits(2, 0)))
FOUR = Crew((waits(0, 1), waits(1, 2), waits(2, 3), waits(3, 0)))
ALONE = Crew(((WORK,), (WORK, WORK), ()))
TURNS = Crew((SHORT, SHORT, SHORT))
EMPTY = Crew(((), ()))
# 10 * 10 * 10 * 5 standings: just as many as are allowed.
LARGEST = Crew(((WORK,) * 9, (WORK,) * 9, (WORK,) * 9, (WORK,) * 4))

NO_TUPLES = [None, True, False, 0, 1, -1, 10 ** 30, "", "01", [], [0], [0, 1], {}, {0: 0}]
NO_PROGRAMS = [None, True, False, -1, 3, 4, 10 ** 30, -10 ** 30, "", "0", (), (0,), [], [0], {}, {0: 1}]


class CrewTest(unittest.TestCase):
    def assert_bad_crew(self, value):
        with self.assertRaises(BadCrew) as caught:
            Crew(value)
        self.assertIsInstance(caught.exception, GridError)

    def assert_bad_program(self, programs, program, index):
        with self.assertRaises(BadProgram) as caught:
            Crew(programs)
        found = (caught.exception.program, caught.exception.index)
        self.assertEqual(found, (program, index), programs)
        for number in found:
            self.assertNotIsInstance(number, bool)

    def assert_too_many(self, programs):
        with self.assertRaises(TooMany) as caught:
            Crew(programs)
        self.assertEqual(caught.exception.most, 5000)
        self.assertIs(type(caught.exception.most), int)

    def test_crews_of_two_three_and_four(self):
        for programs in itertools.chain(
            itertools.product([(), SHORT, NESTED], repeat=2),
            itertools.product([(), SHORT, (WORK,) * 12], repeat=3),
            itertools.product([(), NESTED], repeat=4),
        ):
            crew = Crew(programs)
            self.assertEqual(crew.programs, programs)
            self.assertIs(type(crew.programs), tuple)
            self.assertEqual(len(crew), len(programs))
            self.assertIs(type(len(crew)), int)

    def test_no_crew(self):
        wrong = NO_TUPLES + [
            (), (SHORT,), ((),), (None,), ((),) * 5, (SHORT,) * 5, (None,) * 5, [SHORT, SHORT],
            {0: SHORT, 1: SHORT}, "ab", "abc", ((WORK,) * 13,), ((WORK,) * 12,) * 5, [(), ()],
        ]
        for value in wrong:
            self.assert_bad_crew(value)

    def test_bad_programs(self):
        for value in NO_TUPLES + [(WORK,) * 13, [WORK], list(SHORT)]:
            self.assert_bad_program((value, ()), 0, None)
            self.assert_bad_program((SHORT, value), 1, None)
            self.assert_bad_program(((), SHORT, value), 2, None)
            self.assert_bad_program(((), (), SHORT, value), 3, None)
            self.assert_bad_program((value,) * 4, 0, None)

    def test_bad_steps(self):
        for value in (
            None, True, 0, "", "work", (), [], {}, ["work"], ("take",), ("take", True), ("take", False),
            ("take", -1), ("take", 4), ("take", 10 ** 30), ("take", "0"), ("leave", 0), ("leave", None),
            ("work", 0), ("hold", 0), (WORK,), {"take": 0},
        ):
            self.assert_bad_program(((value,), ()), 0, 0)
            self.assert_bad_program((SHORT, NESTED, SHORT + (value,)), 2, 2)
            self.assert_bad_program(((), (WORK, WORK, value, None), (None,), None), 1, 2)

    def test_programs_that_cannot_be_done(self):
        self.assert_bad_program(((), (("take", 0), ("take", 0))), 1, 1)
        self.assert_bad_program(((), (), (("take", 0), ("leave", 1))), 2, 1)
        self.assert_bad_program((SHORT, SHORT, SHORT, (("take", 3), WORK)), 3, 2)

    def test_first_of_several_programs(self):
        self.assert_bad_program((SHORT, (("take", 0),), None), 1, 1)
        self.assert_bad_program((SHORT, None, (("take", 0),)), 1, None)
        self.assert_bad_program(((WORK, None), (None,), None, 0), 0, 1)

    def test_a_lock_that_several_take_is_no_fault(self):
        self.assertEqual(Crew((SHORT,) * 4).programs, (SHORT,) * 4)

    def test_largest_crews(self):
        self.assertEqual(len(LARGEST), 4)
        for sizes in ((9, 9, 9, 4), (4, 9, 9, 9), (7, 4, 9, 9), (12, 12, 12), (12, 12), (12, 12, 12, 1), (12, 6, 8, 5)):
            self.assertLessEqual(math.prod(size + 1 for size in sizes), 5000)
            Crew(tuple((WORK,) * size for size in sizes))

    def test_too_many(self):
        for sizes in ((12, 12, 12, 12), (12, 10, 6, 4), (4, 6, 10, 12), (10, 9, 9, 4), (12, 12, 12, 2), (7, 8, 8, 7)):
            self.assertGreater(math.prod(size + 1 for size in sizes), 5000)
            self.assert_too_many(tuple((WORK,) * size for size in sizes))
        # Standings that are barred count, too.
        self.assert_too_many((NESTED * 2, NESTED * 2, NESTED * 2, NESTED * 2))

    def test_bad_program_comes_ahead_of_too_many(self):
        longest = (WORK,) * 12
        self.assert_bad_program((longest, longest, longest, None), 3, None)
        self.assert_bad_program((longest, longest, longest, longest[:11] + (("take", 0),)), 3, 12)
        self.assert_bad_program((longest, longest + (WORK,), longest, longest), 1, None)
        self.assert_bad_crew((longest,) * 5)
        self.assert_bad_crew([longest] * 4)


class EqualityTest(unittest.TestCase):
    def test_equal_if_their_programs_are(self):
        self.assertTrue(Crew((SHORT, NESTED)) == Crew((tuple(list(SHORT)), tuple(list(NESTED)))))
        self.assertFalse(Crew((SHORT, NESTED)) != Crew((SHORT, NESTED)))
        self.assertTrue(RING == Crew(RING.programs))

    def test_not_equal(self):
        crew = Crew((SHORT, NESTED))
        others = [(NESTED, SHORT), (SHORT, SHORT), (SHORT, NESTED, ()), ((), SHORT, NESTED), ((), ())]
        for programs in others:
            self.assertFalse(crew == Crew(programs))
            self.assertTrue(crew != Crew(programs))

    def test_equal_to_nothing_of_another_kind(self):
        class Like:
            programs = _programs = (SHORT, NESTED)

            def __eq__(self, _):
                return True

        crew = Crew((SHORT, NESTED))
        values = (None, True, 2, "", (SHORT, NESTED), [SHORT, NESTED], {}, Pair(SHORT, NESTED), object(), Like())
        for value in values:
            self.assertFalse(crew == value)
            self.assertTrue(crew != value)
        self.assertFalse(Pair(SHORT, NESTED) == crew)


class AllRowsTest(unittest.TestCase):
    def test_against_trying_all_rows(self):
        samples = sample_crews()
        self.assertGreater(len(samples), 500)
        many_caught = {2: 0, 3: 0, 4: 0}
        for crew in samples:
            done, caught = judge_rows(crew)
            many_caught[len(crew)] += bool(caught)
            self.assertEqual(count_rows(crew), len(done), crew.programs)
            self.assertEqual(count_stuck_rows(crew), len(caught), crew.programs)
            self.assertEqual(stuck_standings(crew), sorted(set(caught.values())), crew.programs)
            least = min(caught, key=lambda row: (len(row), row), default=None)
            self.assertEqual(least_stuck(crew), least, crew.programs)
        self.assertGreater(min(many_caught.values()), 5)

    def test_standings_of_all_rows(self):
        for crew in sample_crews()[::29] + [TURNS, ALONE, EMPTY]:
            done, caught = judge_rows(crew)
            rows = (done + list(caught))[::17] + list(caught)[:20]
            seen = {row[:many] for row in done + list(caught) for many in range(len(row) + 1)}
            for row in rows:
                for many in range(len(row) + 1):
                    ahead = row[:many]
                    expected = tuple(ahead.count(which) for which in range(len(crew)))
                    self.assertEqual(standing_of(crew, ahead), expected)
                    for which in range(-1, len(crew) + 1):
                        if ahead + (which,) not in seen:
                            with self.assertRaises(BadWay) as error:
                                standing_of(crew, ahead + (which, 0))
                            self.assertEqual(error.exception.index, many)

    def test_crews_of_two_are_as_pairs(self):
        for pair in sample_pairs()[::7]:
            crew = Crew((pair.one, pair.other))
            self.assertEqual(stuck_standings(crew), stuck(pair))
            self.assertEqual(least_stuck(crew), shortest_stuck(pair))
            self.assertEqual(count_rows(crew), count_ways(pair))
            self.assertEqual(count_stuck_rows(crew), count_stuck(pair))

    def test_an_empty_program_changes_no_count(self):
        for crew in sample_crews()[::41]:
            if len(crew) < 4:
                for more in (crew.programs + ((),), ((),) + crew.programs):
                    self.assertEqual(count_rows(Crew(more)), count_rows(crew))
                    self.assertEqual(count_stuck_rows(Crew(more)), count_stuck_rows(crew))


class StandingTest(unittest.TestCase):
    def assert_bad_way(self, crew, row, index):
        with self.assertRaises(BadWay) as caught:
            standing_of(crew, row)
        self.assertIsInstance(caught.exception, GridError)
        self.assertEqual(caught.exception.index, index, row)
        self.assertNotIsInstance(caught.exception.index, bool)

    def test_example(self):
        self.assertEqual(standing_of(RING, (0, 0, 2)), (2, 0, 1))

    def test_empty_row(self):
        for crew in (RING, FOUR, ALONE, EMPTY, LARGEST):
            self.assertEqual(standing_of(crew, ()), (0,) * len(crew))

    def test_row_to_the_end(self):
        self.assertEqual(standing_of(ALONE, (1, 0, 1)), (1, 2, 0))
        self.assertEqual(standing_of(FOUR, (3,) * 4 + (0,) * 4 + (2,) * 4 + (1,) * 4), (4, 4, 4, 4))
        self.assertEqual(standing_of(LARGEST, (0, 1, 2, 3) * 4 + (2, 1, 0) * 5), (9, 9, 9, 4))

    def test_row_that_is_stuck(self):
        self.assertEqual(standing_of(RING, (2, 0, 1)), (1, 1, 1))
        for which in range(3):
            self.assert_bad_way(RING, (2, 0, 1, which), 3)

    def test_no_tuple(self):
        for value in NO_TUPLES:
            for crew in (RING, EMPTY, LARGEST):
                self.assert_bad_way(crew, value, None)

    def test_no_program(self):
        for value in NO_PROGRAMS:
            self.assert_bad_way(RING, (value,), 0)
            self.assert_bad_way(RING, (0, 0, value, 0), 2)
            self.assert_bad_way(RING, (0,) * 4 + (1,) * 4 + (2,) * 4 + (value,), 12)

    def test_program_of_a_larger_crew(self):
        self.assert_bad_way(Crew((SHORT, SHORT)), (2,), 0)
        self.assert_bad_way(RING, (0, 3), 1)
        self.assertEqual(standing_of(FOUR, (0, 3)), (1, 0, 0, 1))
        self.assert_bad_way(FOUR, (0, 4), 1)

    def test_lock_that_another_one_holds(self):
        self.assert_bad_way(TURNS, (0, 1), 1)
        self.assert_bad_way(TURNS, (2, 2, 0, 1), 3)
        self.assertEqual(standing_of(TURNS, (2, 2, 0, 0, 1)), (2, 1, 2))
        self.assert_bad_way(RING, (0, 1, 0), 2)

    def test_beyond_the_end_of_a_program(self):
        self.assert_bad_way(ALONE, (2,), 0)
        self.assert_bad_way(ALONE, (0, 0), 1)
        self.assert_bad_way(ALONE, (1, 1, 1), 2)
        self.assert_bad_way(EMPTY, (0,), 0)
        self.assert_bad_way(LARGEST, (3,) * 5, 4)

    def test_first_of_several_faults(self):
        self.assert_bad_way(TURNS, (0, 1, None), 1)
        self.assert_bad_way(TURNS, (0, None, 1), 1)
        self.assert_bad_way(TURNS, (True, 5, 0), 0)
        self.assert_bad_way(ALONE, (0, 1, 2, 3), 2)


class StuckTest(unittest.TestCase):
    def test_example(self):
        found = [stuck_standings(RING), least_stuck(RING), count_stuck_rows(RING), len(RING)]
        self.assertEqual(found, [[(1, 1, 1)], (0, 1, 2), 6, 3])
        self.assertEqual([count_rows(ALONE), stuck_standings(ALONE), least_stuck(ALONE)], [3, [], None])

    def test_ring_of_four(self):
        self.assertEqual(stuck_standings(FOUR), [(1, 1, 1, 1)])
        self.assertEqual(least_stuck(FOUR), (0, 1, 2, 3))
        self.assertEqual(count_stuck_rows(FOUR), 24)

    def test_nothing_is_stuck(self):
        for crew in (EMPTY, ALONE, TURNS, LARGEST, Crew((NESTED,) * 4), Crew((NESTED, (), ()))):
            self.assertEqual([stuck_standings(crew), count_stuck_rows(crew)], [[], 0])
            self.assertIsNone(least_stuck(crew))

    def test_counts(self):
        self.assertEqual(count_rows(EMPTY), 1)
        self.assertEqual(count_rows(Crew(((),) * 4)), 1)
        self.assertEqual(count_rows(Crew((NESTED, (), ()))), 1)
        self.assertEqual(count_rows(TURNS), 6)
        self.assertEqual(count_rows(Crew((SHORT,) * 4)), 24)
        sizes = [len(program) for program in LARGEST.programs]
        expected = math.factorial(sum(sizes)) // math.prod(math.factorial(size) for size in sizes)
        self.assertEqual(count_rows(LARGEST), expected)

    def test_others_end_ahead_of_being_stuck(self):
        # The two that cross wait for ever, but a row is stuck only behind all other steps.
        crew = Crew((NESTED, CROSSED, (WORK, WORK)))
        self.assertEqual(stuck_standings(crew), [(1, 1, 2)])
        self.assertEqual(least_stuck(crew), (0, 1, 2, 2))
        self.assertEqual(count_stuck_rows(crew), 12)

    def test_third_program_waits_behind_two(self):
        crew = Crew((NESTED, CROSSED, SHORT))
        self.assertEqual(stuck_standings(crew), [(1, 1, 0), (1, 1, 2)])
        self.assertEqual(least_stuck(crew), (0, 1))

    def test_several_standings_ascend_and_the_shortest_row_counts_first(self):
        crew = Crew((NESTED + NESTED, CROSSED, CROSSED))
        found = stuck_standings(crew)
        self.assertEqual(found, sorted(found))
        self.assertEqual(found[0], (1, 0, 1))
        self.assertEqual(least_stuck(crew), (0, 1))
        # The least row of all that are stuck is longer.
        caught = judge_rows(crew)[1]
        self.assertLess(min(caught), (0, 1))


class GeneralTest(unittest.TestCase):
    def test_returned_lists_are_new_and_calls_repeat(self):
        first = stuck_standings(RING)
        first.append(None)
        self.assertEqual(stuck_standings(RING), [(1, 1, 1)])
        none = stuck_standings(EMPTY)
        none.append(None)
        self.assertEqual(stuck_standings(EMPTY), [])
        for function in (least_stuck, count_rows, count_stuck_rows, lambda crew: standing_of(crew, (0, 1))):
            self.assertEqual(function(RING), function(RING))

    def test_arguments_are_not_modified(self):
        wrong = [0, [1], {"a": 2}]
        for call in (
            lambda: Crew(wrong), lambda: Crew((SHORT, wrong)), lambda: Crew((SHORT, (wrong,))),
            lambda: standing_of(RING, wrong), lambda: standing_of(RING, (wrong,)),
        ):
            with self.assertRaises(GridError):
                call()
        self.assertEqual(wrong, [0, [1], {"a": 2}])
        self.assertEqual(RING, Crew((waits(0, 1), waits(1, 2), waits(2, 0))))

    def test_kinds_of_values(self):
        self.assertIs(type(stuck_standings(RING)), list)
        self.assertIs(type(least_stuck(RING)), tuple)
        for standing in stuck_standings(RING) + [standing_of(RING, ()), standing_of(RING, (0, 1))]:
            self.assertIs(type(standing), tuple)
            self.assertEqual([type(many) for many in standing], [int] * 3)
        for number in (count_rows(RING), count_stuck_rows(RING), count_stuck_rows(EMPTY)):
            self.assertIs(type(number), int)

    def test_properties_cannot_be_assigned(self):
        crew = Crew((SHORT, NESTED))
        with self.assertRaises(AttributeError):
            crew.programs = ((), ())
        self.assertEqual(crew.programs, (SHORT, NESTED))

    def test_interface_is_defined_where_it_is_listed(self):
        functions = (standing_of, stuck_standings, least_stuck, count_rows, count_stuck_rows)
        for made in (Crew, *functions):
            self.assertEqual(made.__module__, "gridlocks.crews")
            self.assertIs(getattr(crews, made.__name__), made)
        for name in ("__init__", "__eq__", "__len__", "programs"):
            self.assertIn(name, vars(Crew))
        crew = Crew(programs=(SHORT, ()))
        self.assertEqual(standing_of(crew=crew, row=(0,)), (1, 0))
        self.assertEqual([function(crew=crew) for function in functions[1:]], [[], None, 1, 0])


if __name__ == "__main__":
    unittest.main()
