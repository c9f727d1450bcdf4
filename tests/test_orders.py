import itertools
import unittest

from gridlocks import orders
from gridlocks.crews import Crew, count_stuck_rows
from gridlocks.orders import at_once, lock_order
from samples import busy_programs, held, judge_rows, sample_crews, tangled_programs

WORK = ("work",)
SHORT = (("take", 0), ("leave", 0))
FIRST = (("take", 0), ("take", 1), ("leave", 1), ("leave", 0))
SECOND = (("take", 1), ("take", 2), ("leave", 2), ("leave", 1))
THIRD = (("take", 2), ("take", 0), ("leave", 0), ("leave", 2))
TURNED = (("take", 1), ("take", 0), ("leave", 0), ("leave", 1))
RING = Crew((FIRST, SECOND, THIRD))
EMPTY = Crew(((), ()))
LARGEST = Crew(((WORK,) * 9, (WORK,) * 9, (WORK,) * 9, (WORK,) * 4))


def take(*locks):
    return tuple(("take", lock) for lock in locks)


def leave(*locks):
    return tuple(("leave", lock) for lock in locks)


def nested(*locks):
    return take(*locks) + leave(*reversed(locks))


FOUR = Crew((nested(0, 1), nested(1, 2), nested(2, 3), nested(3, 0)))


def obeys(program, order):
    """Tell whether a program takes no lock while it holds one that stands behind it in an order."""
    for many, step in enumerate(program):
        if step[0] == "take":
            behind = order[order.index(step[1]) + 1:]
            if held(program, many) & set(behind):
                return False
    return True


def first_lock_order(crew):
    """The least order of the locks, by trying all of them one by one."""
    for order in itertools.permutations(range(4)):
        if all(obeys(program, order) for program in crew.programs):
            return order
    return None


def most_at_once(crew):
    """The greatest number of programs at once, by trying all rows for each number."""
    return max(most for most in range(1, len(crew) + 1) if not judge_rows(crew, most)[1])


class AllTest(unittest.TestCase):
    def test_lock_orders_against_trying_all(self):
        many = {True: 0, False: 0}
        for crew in sample_crews():
            expected = first_lock_order(crew)
            self.assertEqual(lock_order(crew), expected, crew.programs)
            many[expected is None] += 1
        self.assertGreater(min(many.values()), 50)

    def test_lock_orders_of_longer_programs(self):
        programs = [nested(*locks) for locks in itertools.permutations(range(4))] + busy_programs() + tangled_programs()
        for one, other in list(itertools.product(programs, programs))[::7]:
            crew = Crew((one, other))
            self.assertEqual(lock_order(crew), first_lock_order(crew), crew.programs)

    def test_no_row_is_stuck_if_there_is_an_order(self):
        for crew in sample_crews():
            if lock_order(crew) is not None:
                self.assertEqual(count_stuck_rows(crew), 0)
                self.assertEqual(at_once(crew), len(crew))

    def test_numbers_at_once_against_trying_all_rows(self):
        found = {}
        for crew in sample_crews():
            expected = most_at_once(crew)
            self.assertEqual(at_once(crew), expected, crew.programs)
            found[len(crew), expected] = found.get((len(crew), expected), 0) + 1
        for kind in ((2, 1), (2, 2), (3, 1), (3, 2), (3, 3), (4, 1), (4, 4)):
            self.assertGreater(found[kind], 1, kind)


class LockOrderTest(unittest.TestCase):
    def test_example(self):
        self.assertIsNone(lock_order(RING))
        self.assertEqual(lock_order(Crew((SECOND, THIRD))), (1, 2, 0, 3))
        self.assertEqual(lock_order(Crew((TURNED, SECOND))), (1, 0, 2, 3))

    def test_nothing_held_while_taking(self):
        for crew in (EMPTY, LARGEST, Crew((SHORT, SHORT)), Crew((nested(3) + nested(2) + nested(1), SHORT * 6))):
            self.assertEqual(lock_order(crew), (0, 1, 2, 3))

    def test_greatest_order(self):
        self.assertEqual(lock_order(Crew((nested(3, 2, 1, 0), ()))), (3, 2, 1, 0))
        self.assertEqual(lock_order(Crew((nested(3, 2), nested(2, 1), nested(1, 0)))), (3, 2, 1, 0))

    def test_least_of_several(self):
        self.assertEqual(lock_order(Crew((nested(3, 1), ()))), (0, 2, 3, 1))
        self.assertEqual(lock_order(Crew((nested(2, 0), nested(3, 0)))), (1, 2, 3, 0))
        self.assertEqual(lock_order(Crew(((), nested(3, 0)))), (1, 2, 3, 0))

    def test_locks_held_and_not_only_the_last_taken(self):
        self.assertEqual(lock_order(Crew((take(2, 3) + leave(3) + take(1) + leave(1, 2), ()))), (0, 2, 1, 3))
        self.assertEqual(lock_order(Crew((take(2, 3) + leave(2) + take(1) + leave(1, 3), ()))), (0, 2, 3, 1))

    def test_a_program_may_be_at_odds_with_itself(self):
        self.assertIsNone(lock_order(Crew((nested(0, 1) + nested(1, 0), ()))))
        self.assertEqual(at_once(Crew((nested(0, 1) + nested(1, 0), ()))), 2)
        self.assertIsNone(lock_order(Crew((take(0, 1) + leave(0) + take(0) + leave(0, 1), ()))))

    def test_no_order_though_no_row_is_stuck(self):
        crew = Crew((nested(3, 0, 1), nested(3, 1, 0)))
        self.assertIsNone(lock_order(crew))
        self.assertEqual([count_stuck_rows(crew), at_once(crew)], [0, 2])

    def test_rings(self):
        self.assertIsNone(lock_order(FOUR))
        for which in range(4):
            self.assertIsNotNone(lock_order(Crew(FOUR.programs[:which] + FOUR.programs[which + 1:])))
        self.assertIsNone(lock_order(Crew((nested(0, 1), TURNED))))


class AtOnceTest(unittest.TestCase):
    def test_example(self):
        self.assertEqual(at_once(RING), 2)
        self.assertEqual(at_once(Crew((TURNED, SECOND))), 2)
        self.assertEqual(at_once(Crew((FIRST, TURNED))), 1)

    def test_all_at_once(self):
        for crew in (EMPTY, LARGEST, Crew(((),) * 4), Crew((SHORT,) * 3), Crew((FIRST,) * 4), Crew((FIRST, (), ()))):
            self.assertEqual(at_once(crew), len(crew))

    def test_rings(self):
        self.assertEqual(at_once(FOUR), 3)
        self.assertEqual(at_once(Crew(RING.programs + ((),))), 2)
        self.assertEqual(at_once(Crew((SHORT,) + RING.programs)), 2)

    def test_one_of_four(self):
        self.assertEqual(at_once(Crew((FIRST, TURNED, nested(2, 3), nested(3, 2)))), 1)
        self.assertEqual(at_once(Crew((nested(2, 3), FIRST, SHORT, TURNED))), 1)

    def test_programs_of_one_step_never_run(self):
        # Such a program has done nothing, or all. While two run it cannot begin, but it frees none.
        self.assertEqual(at_once(Crew(((WORK,), FIRST, TURNED))), 1)
        self.assertEqual(at_once(Crew(((WORK,),) + RING.programs)), 2)
        self.assertEqual(at_once(Crew(((WORK,),) * 4)), 4)

    def test_a_program_runs_also_while_it_holds_nothing(self):
        # Both must have begun to wait for each other, and each runs from its first step on.
        self.assertEqual(at_once(Crew(((WORK,) + FIRST, (WORK,) + TURNED))), 1)
        self.assertEqual(at_once(Crew((FIRST + (WORK,), TURNED + (WORK,), nested(0, 2)))), 1)


class GeneralTest(unittest.TestCase):
    def test_calls_repeat_and_arguments_are_not_modified(self):
        crew = Crew((FIRST, SECOND, THIRD))
        for _ in range(2):
            self.assertEqual([lock_order(crew), at_once(crew)], [None, 2])
            self.assertEqual([lock_order(Crew((SECOND, THIRD))), at_once(Crew((FIRST, TURNED)))], [(1, 2, 0, 3), 1])
        self.assertEqual(crew, RING)

    def test_kinds_of_values(self):
        found = lock_order(EMPTY)
        self.assertIs(type(found), tuple)
        self.assertEqual([type(lock) for lock in found], [int] * 4)
        self.assertIs(type(at_once(EMPTY)), int)
        self.assertIs(type(at_once(Crew((FIRST, TURNED)))), int)

    def test_interface_is_defined_where_it_is_listed(self):
        for function in (lock_order, at_once):
            self.assertEqual(function.__module__, "gridlocks.orders")
            self.assertIs(getattr(orders, function.__name__), function)
        self.assertEqual([lock_order(crew=EMPTY), at_once(crew=EMPTY)], [(0, 1, 2, 3), 2])


if __name__ == "__main__":
    unittest.main()
