import itertools
import unittest

from gridlocks import likes
from gridlocks.crews import Crew, count_rows
from gridlocks.errors import BadWay, GridError, Unfinished
from gridlocks.likes import count_like, least_torn, like_order
from gridlocks.whole import count_whole, is_whole, torn
from samples import judge, judge_rows, orders_like, sample_crews, sample_pairs

WORK = ("work",)
SHORT = (("take", 0), ("leave", 0))
AFTER = (("take", 1), ("leave", 1))
LAST = (("take", 2), ("leave", 2))
NESTED = (("take", 0), ("take", 1), ("leave", 1), ("leave", 0))
CROSSED = (("take", 1), ("take", 0), ("leave", 0), ("leave", 1))
ONCE, TWICE = Crew((SHORT, SHORT)), Crew((SHORT + SHORT, SHORT))
STUCK = Crew((NESTED, CROSSED))
EMPTY = Crew(((), ()))
THREE = Crew((SHORT, SHORT, SHORT))
# Each two share a lock: a row can lead round, each having a lock ahead of the next one.
ROUND = Crew((SHORT + LAST, SHORT + AFTER, AFTER + LAST))
LARGEST = Crew(((WORK,) * 9, (WORK,) * 9, (WORK,) * 9, (WORK,) * 4))

NO_TUPLES = [None, True, False, 0, 1, -1, 10 ** 30, "", "0011", [], [0], [0, 0, 1, 1], {}, {0: 0}]
NO_PROGRAMS = [None, True, False, -1, 2, 3, 10 ** 30, -10 ** 30, "", "0", (), (0,), [], [0], {}, {0: 1}]


def taking_ahead():
    """All programs that take none to three locks, and leave some only when they have all."""
    found = []
    for many in range(4):
        for locks in itertools.combinations(range(3), many):
            for taken, left in itertools.product(itertools.permutations(locks), repeat=2):
                found.append(tuple(("take", lock) for lock in taken) + tuple(("leave", lock) for lock in left))
    return found


class AllRowsTest(unittest.TestCase):
    def test_against_trying_all_rows_and_orders(self):
        many_torn = {2: 0, 3: 0, 4: 0}
        for crew in sample_crews():
            done = judge_rows(crew)[0]
            if len(done) > 4000:
                continue
            broken = [row for row in done if not orders_like(crew, row)]
            self.assertEqual(count_like(crew), len(done) - len(broken), crew.programs)
            self.assertEqual(least_torn(crew), min(broken, default=None), crew.programs)
            many_torn[len(crew)] += bool(broken)
        self.assertGreater(min(many_torn.values()), 5)

    def test_orders_of_all_rows(self):
        found = set()
        for crew in sample_crews()[::5] + [ROUND]:
            done, caught = judge_rows(crew)
            for row in done[::len(done) // 15 + 1] + done[-3:]:
                expected = orders_like(crew, row)
                self.assertEqual(like_order(crew, row), expected[0] if expected else None, (crew.programs, row))
                found.add(like_order(crew, row))
        # All orders of two and of three programs are the least one of some row, and so is none.
        for many in (2, 3):
            self.assertLess(set(itertools.permutations(range(many))), found)
        self.assertIn(None, found)

    def test_rows_that_do_not_come_to_the_end(self):
        for crew in sample_crews()[::23] + [STUCK, ROUND]:
            done, caught = judge_rows(crew)
            short = [row[:-1] for row in done[:5] if row] + [row[:len(row) // 2] for row in done[-5:] if row]
            for row in short + list(caught)[:20]:
                with self.assertRaises(Unfinished):
                    like_order(crew, row)

    def test_crews_of_two_are_as_pairs(self):
        for pair in sample_pairs()[::5]:
            crew = Crew((pair.one, pair.other))
            self.assertEqual(count_like(crew), count_whole(pair))
            self.assertEqual(least_torn(crew), torn(pair))
        for pair in sample_pairs()[::101]:
            crew = Crew((pair.one, pair.other))
            for way in judge(pair)[1]:
                self.assertIs(like_order(crew, way) is not None, is_whole(pair, way))

    def test_all_taken_ahead_of_leaving_any(self):
        programs = taking_ahead()
        crews = list(itertools.product(programs, programs))[::29]
        crews += list(itertools.product(programs, programs, programs))[::1999]
        crews += list(itertools.product(*[programs[:16]] * 4))[::1511]
        for crew in map(Crew, crews):
            self.assertIsNone(least_torn(crew), crew.programs)
            self.assertEqual(count_like(crew), count_rows(crew), crew.programs)


class OrderTest(unittest.TestCase):
    def test_example(self):
        self.assertIsNone(like_order(TWICE, (0, 0, 1, 1, 0, 0)))
        self.assertEqual(like_order(ONCE, (1, 1, 0, 0)), (1, 0))

    def test_one_behind_the_other(self):
        crew = Crew((SHORT + AFTER, AFTER + SHORT, SHORT + LAST, NESTED))
        for order in itertools.permutations(range(4)):
            row = tuple(which for which in order for _ in crew.programs[which])
            self.assertEqual(like_order(crew, row), order)

    def test_least_of_several(self):
        crew = Crew((AFTER, SHORT, SHORT))
        self.assertEqual(like_order(crew, (2, 2, 1, 1, 0, 0)), (0, 2, 1))
        self.assertEqual(like_order(crew, (1, 1, 2, 2, 0, 0)), (0, 1, 2))
        crew = Crew((SHORT, AFTER, SHORT, AFTER))
        self.assertEqual(like_order(crew, (3, 3, 2, 2, 1, 1, 0, 0)), (2, 0, 3, 1))

    def test_no_common_locks(self):
        self.assertEqual(like_order(EMPTY, ()), (0, 1))
        self.assertEqual(like_order(Crew(((),) * 4), ()), (0, 1, 2, 3))
        self.assertEqual(like_order(Crew((SHORT, AFTER)), (1, 0, 1, 0)), (0, 1))
        self.assertEqual(like_order(Crew((SHORT, AFTER, LAST)), (2, 1, 0, 2, 1, 0)), (0, 1, 2))
        self.assertEqual(like_order(LARGEST, (3,) * 4 + (2,) * 9 + (1,) * 9 + (0,) * 9), (0, 1, 2, 3))

    def test_a_program_is_not_ahead_of_itself(self):
        self.assertEqual(like_order(Crew((SHORT * 3, ())), (0,) * 6), (0, 1))

    def test_leaving_counts_and_not_taking(self):
        crew = Crew(((WORK, WORK) + SHORT, SHORT + (WORK,)))
        self.assertEqual(like_order(crew, (0, 0, 1, 1, 0, 0, 1)), (1, 0))
        self.assertEqual(like_order(crew, (0, 0, 0, 0, 1, 1, 1)), (0, 1))

    def test_some_time_ahead_and_not_only_next(self):
        # The program 2 has the lock last: both others left it, though only one of them just ahead.
        self.assertEqual(like_order(THREE, (1, 1, 0, 0, 2, 2)), (1, 0, 2))
        self.assertEqual(like_order(THREE, (2, 2, 1, 1, 0, 0)), (2, 1, 0))
        self.assertIsNone(like_order(Crew((SHORT + SHORT, SHORT, SHORT)), (0, 0, 1, 1, 2, 2, 0, 0)))

    def test_a_lock_that_is_had_several_times(self):
        self.assertEqual(like_order(TWICE, (0, 0, 0, 0, 1, 1)), (0, 1))
        self.assertEqual(like_order(TWICE, (1, 1, 0, 0, 0, 0)), (1, 0))
        crew = Crew((SHORT * 3, SHORT * 3))
        self.assertIsNone(like_order(crew, (0, 0, 1, 1) * 3))
        self.assertEqual(like_order(crew, (1,) * 6 + (0,) * 6), (1, 0))

    def test_round(self):
        # The program 0 has a lock ahead of 1, 1 ahead of 2, and 2 ahead of 0.
        self.assertIsNone(like_order(ROUND, (0, 0, 1, 1, 1, 1, 2, 2, 2, 2, 0, 0)))
        self.assertEqual(like_order(ROUND, (0, 0, 1, 1, 1, 1, 0, 0, 2, 2, 2, 2)), (0, 1, 2))

    def test_kinds_of_values(self):
        found = like_order(THREE, (2, 2, 0, 0, 1, 1))
        self.assertIs(type(found), tuple)
        self.assertEqual([type(which) for which in found], [int] * 3)


class CountTest(unittest.TestCase):
    def test_example(self):
        self.assertEqual([count_rows(TWICE), count_like(TWICE), least_torn(TWICE)], [3, 2, (0, 0, 1, 1, 0, 0)])

    def test_all_rows_count(self):
        more = [Crew(((),) * 4), Crew((SHORT, AFTER, LAST)), Crew((NESTED,) * 4)]
        for crew in [EMPTY, ONCE, THREE, STUCK, LARGEST] + more:
            self.assertEqual(count_like(crew), count_rows(crew))
            self.assertIsNone(least_torn(crew))
        self.assertEqual(count_like(EMPTY), 1)
        self.assertEqual(count_like(THREE), 6)

    def test_rows_that_are_stuck_do_not_count(self):
        self.assertEqual(count_like(STUCK), 4)

    def test_round(self):
        found = least_torn(ROUND)
        self.assertIsNone(like_order(ROUND, found))
        self.assertEqual(found, (0, 0, 1, 1, 1, 1, 2, 2, 2, 2, 0, 0))
        # With two of the three there is a round as well, but only if these share two locks.
        self.assertIsNone(least_torn(Crew(ROUND.programs[:2])))

    def test_large_crews(self):
        crew = Crew((SHORT * 4 + (WORK,), SHORT * 4 + (WORK,), SHORT * 4 + (WORK,), SHORT * 2))
        self.assertEqual(least_torn(crew), (0,) * 9 + (1,) * 9 + (2,) * 6 + (3,) * 2 + (2,) * 3 + (3,) * 2)
        self.assertEqual(least_torn(Crew((SHORT * 6, SHORT * 6))), (0,) * 10 + (1,) * 2 + (0,) * 2 + (1,) * 10)
        self.assertEqual(count_like(Crew((SHORT * 6, SHORT * 6))), 2)

    def test_kinds_of_values(self):
        self.assertIs(type(least_torn(TWICE)), tuple)
        self.assertEqual([type(which) for which in least_torn(TWICE)], [int] * 6)
        for crew in (TWICE, EMPTY):
            self.assertIs(type(count_like(crew)), int)


class ErrorTest(unittest.TestCase):
    def assert_bad_way(self, crew, row, index):
        with self.assertRaises(BadWay) as caught:
            like_order(crew, row)
        self.assertIsInstance(caught.exception, GridError)
        self.assertEqual(caught.exception.index, index, row)
        self.assertNotIsInstance(caught.exception.index, bool)

    def assert_unfinished(self, crew, row):
        with self.assertRaises(Unfinished) as caught:
            like_order(crew, row)
        self.assertIsInstance(caught.exception, GridError)

    def test_no_tuple(self):
        for value in NO_TUPLES:
            for crew in (ONCE, EMPTY, LARGEST):
                self.assert_bad_way(crew, value, None)

    def test_no_program(self):
        for value in NO_PROGRAMS:
            self.assert_bad_way(ONCE, (value,), 0)
            self.assert_bad_way(ONCE, (0, 0, value), 2)
            self.assert_bad_way(ONCE, (0, 0, 1, 1, value), 4)
            self.assert_bad_way(EMPTY, (value,), 0)

    def test_step_that_cannot_be_done(self):
        self.assert_bad_way(ONCE, (0, 1), 1)
        self.assert_bad_way(ONCE, (0, 0, 0), 2)
        self.assert_bad_way(ONCE, (1, 1, 0, 0, 1), 4)
        self.assert_bad_way(STUCK, (0, 1, 0), 2)
        self.assert_bad_way(EMPTY, (0,), 0)

    def test_unfinished(self):
        for row in ((), (0,), (0, 0), (1, 1), (1, 1, 0)):
            self.assert_unfinished(ONCE, row)
        self.assert_unfinished(STUCK, (0, 1))
        self.assert_unfinished(LARGEST, (0, 1, 2, 3) * 4)
        self.assert_unfinished(Crew(((), (), (WORK,))), ())

    def test_fault_comes_ahead_of_unfinished(self):
        self.assert_bad_way(ONCE, (0, 2), 1)
        self.assert_bad_way(ONCE, (0, 1), 1)
        self.assert_bad_way(ONCE, (True,), 0)
        self.assert_bad_way(ONCE, (0, 0, 1, None), 3)
        self.assert_bad_way(ONCE, [0], None)

    def test_first_of_several_faults(self):
        self.assert_bad_way(ONCE, (0, 1, None), 1)
        self.assert_bad_way(ONCE, (0, None, 1), 1)
        self.assert_bad_way(ONCE, (0, 0, 0, 7), 2)


class GeneralTest(unittest.TestCase):
    def test_arguments_are_not_modified_and_calls_repeat(self):
        crew = Crew((SHORT + SHORT, SHORT))
        wrong = [0, [1], {"a": 2}]
        for row in (wrong, (wrong,)):
            with self.assertRaises(BadWay):
                like_order(crew, row)
        self.assertEqual(wrong, [0, [1], {"a": 2}])
        for function in (count_like, least_torn, lambda crew: like_order(crew, (1, 1, 0, 0, 0, 0))):
            self.assertEqual(function(crew), function(crew))
        self.assertEqual(crew, TWICE)

    def test_interface_is_defined_where_it_is_listed(self):
        for function in (like_order, count_like, least_torn):
            self.assertEqual(function.__module__, "gridlocks.likes")
            self.assertIs(getattr(likes, function.__name__), function)
        found = [like_order(crew=ONCE, row=(0, 0, 1, 1)), count_like(crew=ONCE), least_torn(crew=ONCE)]
        self.assertEqual(found, [(0, 1), 2, None])


if __name__ == "__main__":
    unittest.main()
