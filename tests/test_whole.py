import itertools
import math
import unittest

from gridlocks import whole
from gridlocks.errors import BadWay, GridError, Unfinished
from gridlocks.pairs import Pair, blocks
from gridlocks.ways import count_ways, places, word
from gridlocks.whole import count_whole, is_whole, sides, torn
from samples import firsts, is_program, judge, sample_pairs

WORK = ("work",)
SHORT = (("take", 0), ("leave", 0))
AFTER = (("take", 1), ("leave", 1))
NESTED = (("take", 0), ("take", 1), ("leave", 1), ("leave", 0))
CROSSED = (("take", 1), ("take", 0), ("leave", 0), ("leave", 1))
EMPTY = Pair((), ())
LONGEST = Pair((WORK,) * 12, (WORK,) * 12)
# One lock behind the other, so that each program can be first for one of them.
EXAMPLE = Pair(SHORT + AFTER, SHORT + AFTER)
STUCK = Pair(NESTED, CROSSED)
# Twelve steps each, and a block for each two times that both hold the lock.
OFTEN = Pair(SHORT * 6, SHORT * 6)

NO_TUPLES = [None, True, False, 0, 1, -1, "", "0011", [], [0], [0, 0, 1, 1], {}, {0: 0}]
NO_TURNS = [None, True, False, -1, 2, 10 ** 30, "", "0", (), (0,), [], [0], {}, {0: 1}]


def two_part_programs():
    """All programs that take one to three locks, and leave some only when they have all."""
    found = []
    for many in (1, 2, 3):
        for locks in itertools.combinations((0, 1, 2), many):
            for taken, left in itertools.product(itertools.permutations(locks), repeat=2):
                found.append(tuple(("take", lock) for lock in taken) + tuple(("leave", lock) for lock in left))
    return found


class AllWaysTest(unittest.TestCase):
    def test_sides_of_all_ways_to_the_end(self):
        for pair in sample_pairs()[::7] + [EXAMPLE, STUCK, EMPTY]:
            for way in judge(pair)[1]:
                expected = firsts(pair, way)
                self.assertEqual(sides(pair, way), expected, (pair.one, pair.other, way))
                self.assertEqual(len(expected), len(blocks(pair)))
                self.assertIs(is_whole(pair, way), len(set(expected)) < 2)

    def test_counts_and_least_against_trying_all_ways(self):
        pairs = sample_pairs()
        many_torn = many_whole = 0
        for pair in pairs:
            done = judge(pair)[1]
            broken = [way for way in done if len(set(firsts(pair, way))) == 2]
            about = (pair.one, pair.other)
            self.assertEqual(count_whole(pair), len(done) - len(broken), about)
            self.assertEqual(torn(pair), min(broken, default=None), about)
            many_torn += bool(broken)
            many_whole += not broken
        self.assertGreater(len(pairs), 1000)
        self.assertGreater(many_torn, 100)
        self.assertGreater(many_whole, 100)

    def test_ways_that_do_not_come_to_the_end(self):
        for pair in sample_pairs()[::29] + [EXAMPLE, STUCK]:
            _, done, _, seen, _ = judge(pair)
            for way in seen:
                if way not in done:
                    for function in (sides, is_whole):
                        with self.assertRaises(Unfinished):
                            function(pair, way)

    def test_all_taken_ahead_of_leaving_any(self):
        programs = two_part_programs()
        self.assertTrue(all(is_program(program) for program in programs))
        for one, other in list(itertools.product(programs, programs))[::3]:
            pair = Pair(one, other)
            self.assertIsNone(torn(pair), (one, other))
            self.assertEqual(count_whole(pair), count_ways(pair), (one, other))
        # The same for the longest such programs.
        longest = tuple((verb, lock) for verb in ("take", "leave") for lock in range(4)) + (WORK,) * 4
        self.assertIsNone(torn(Pair(longest, longest)))


class SidesTest(unittest.TestCase):
    def test_example(self):
        self.assertEqual(sides(EXAMPLE, torn(EXAMPLE)), (0, 1))

    def test_one_behind_the_other(self):
        for pair in (EXAMPLE, STUCK, OFTEN, Pair(NESTED + NESTED, CROSSED)):
            zeros, ones = (0,) * len(pair.one), (1,) * len(pair.other)
            many = len(blocks(pair))
            self.assertEqual(sides(pair, zeros + ones), (0,) * many)
            self.assertEqual(sides(pair, ones + zeros), (1,) * many)
        self.assertEqual(len(blocks(OFTEN)), 36)

    def test_no_blocks(self):
        self.assertEqual(sides(EMPTY, ()), ())
        self.assertEqual(sides(Pair(NESTED, ()), (0, 0, 0, 0)), ())
        self.assertEqual(sides(Pair((), NESTED), (1, 1, 1, 1)), ())
        self.assertEqual(sides(Pair(SHORT, AFTER), (0, 1, 0, 1)), ())
        self.assertEqual(sides(LONGEST, (0, 1) * 12), ())

    def test_a_lock_taken_several_times(self):
        pair = Pair(SHORT + SHORT, SHORT)
        self.assertEqual(blocks(pair), [(0, 1, 1, 1, 1), (0, 3, 3, 1, 1)])
        self.assertEqual(sides(pair, (0, 0, 1, 1, 0, 0)), (0, 1))
        self.assertEqual(sides(Pair(SHORT, SHORT + SHORT), (1, 1, 0, 0, 1, 1)), (1, 0))

    def test_in_the_order_of_blocks_and_not_of_time(self):
        pair = Pair(AFTER + SHORT, AFTER + SHORT)
        self.assertEqual(sides(pair, (0, 0, 1, 1, 1, 1, 0, 0)), (1, 0))

    def test_taking_counts_and_not_leaving_or_waiting(self):
        one = (WORK, WORK, ("take", 0), ("leave", 0))
        self.assertEqual(sides(Pair(one, SHORT), (0, 0, 1, 1, 0, 0)), (1,))
        self.assertEqual(sides(Pair(one, SHORT), (0, 0, 0, 0, 1, 1)), (0,))
        self.assertEqual(sides(Pair(SHORT, one), (1, 1, 0, 0, 1, 1)), (0,))

    def test_kinds_of_values(self):
        found = sides(EXAMPLE, (1, 1, 0, 0, 0, 0, 1, 1))
        self.assertIsInstance(found, tuple)
        for side in found:
            self.assertIs(type(side), int)


class WholeTest(unittest.TestCase):
    def test_example(self):
        self.assertIs(is_whole(EXAMPLE, (0, 0, 0, 0, 1, 1, 1, 1)), True)
        self.assertEqual(count_whole(EXAMPLE), 12)

    def test_whole_for_either_program(self):
        self.assertIs(is_whole(EXAMPLE, (1, 1, 1, 1, 0, 0, 0, 0)), True)
        self.assertIs(is_whole(EXAMPLE, (1, 1, 0, 0, 1, 1, 0, 0)), True)
        self.assertIs(is_whole(EXAMPLE, (0, 0, 1, 1, 0, 0, 1, 1)), True)

    def test_torn_for_either_program(self):
        self.assertIs(is_whole(EXAMPLE, (0, 0, 1, 1, 1, 1, 0, 0)), False)
        self.assertIs(is_whole(EXAMPLE, (1, 1, 0, 0, 0, 0, 1, 1)), False)

    def test_no_blocks(self):
        self.assertIs(is_whole(EMPTY, ()), True)
        self.assertIs(is_whole(Pair(SHORT, AFTER), (0, 1, 0, 1)), True)
        self.assertIs(is_whole(LONGEST, (1, 0) * 12), True)

    def test_counts(self):
        self.assertEqual(count_whole(EMPTY), 1)
        self.assertEqual(count_whole(Pair(NESTED, ())), 1)
        self.assertEqual(count_whole(Pair((), NESTED)), 1)
        self.assertEqual(count_whole(Pair(SHORT, SHORT)), 2)
        self.assertEqual(count_whole(STUCK), 4)
        # Without blocks each way counts, and it counts once.
        self.assertEqual(count_whole(Pair(SHORT, AFTER)), 6)
        self.assertEqual(count_whole(LONGEST), math.comb(24, 12))

    def test_counts_of_twelve_steps(self):
        # Whoever is first for all must have left for the last time ahead of the other one.
        self.assertEqual(count_whole(OFTEN), 2)
        self.assertEqual(count_ways(OFTEN), math.comb(12, 6))


class TornTest(unittest.TestCase):
    def test_example(self):
        self.assertEqual(torn(EXAMPLE), (0, 0, 1, 1, 1, 1, 0, 0))

    def test_none(self):
        for pair in (EMPTY, LONGEST, STUCK, Pair(SHORT, SHORT), Pair(NESTED, NESTED),
                     Pair(SHORT, AFTER), Pair((), NESTED), Pair(OFTEN.one, ())):
            self.assertIsNone(torn(pair))

    def test_least_begins_with_the_program_1_if_it_must(self):
        # Once the program 0 has the lock 0 first, it leaves it only behind having the lock 1, too.
        pair = Pair(NESTED, SHORT + AFTER)
        found = torn(pair)
        self.assertEqual(found, (1, 1, 0, 0, 0, 0, 1, 1))
        self.assertEqual(sides(pair, found), (1, 0))

    def test_least_takes_turns(self):
        pair = Pair(NESTED, AFTER + SHORT)
        found = torn(pair)
        self.assertEqual(found, (0, 1, 1, 0, 0, 0, 1, 1))
        self.assertEqual(sides(pair, found), (0, 1))

    def test_least_goes_on_with_the_program_0_as_long_as_it_can(self):
        one = (WORK, WORK) + SHORT + (WORK,) + AFTER + (WORK,)
        pair = Pair(one, (WORK,) + SHORT + AFTER)
        found = torn(pair)
        self.assertEqual(found, (0, 0, 0, 0, 0, 1, 1, 1, 1, 1, 0, 0, 0))
        self.assertEqual(sides(pair, found), (0, 1))

    def test_twelve_steps(self):
        found = torn(OFTEN)
        self.assertEqual(found, (0,) * 10 + (1,) * 2 + (0,) * 2 + (1,) * 10)
        self.assertIs(is_whole(OFTEN, found), False)

    def test_comes_to_the_end_though_others_get_stuck(self):
        pair = Pair(NESTED + NESTED, CROSSED + CROSSED)
        found = torn(pair)
        self.assertEqual(word(pair, found), "done")
        self.assertEqual(places(pair, found)[-1], (8, 8))
        self.assertEqual(found, (0, 0, 0, 0, 1, 1, 1, 0, 1, 0, 0, 0, 1, 1, 1, 1))


class ErrorTest(unittest.TestCase):
    def assert_bad_way(self, pair, way, index):
        for function in (sides, is_whole):
            with self.assertRaises(BadWay) as caught:
                function(pair, way)
            self.assertEqual(caught.exception.index, index, way)

    def assert_unfinished(self, pair, way):
        for function in (sides, is_whole):
            with self.assertRaises(Unfinished) as caught:
                function(pair, way)
            self.assertIsInstance(caught.exception, GridError)

    def test_no_tuple(self):
        for value in NO_TUPLES:
            self.assert_bad_way(EXAMPLE, value, None)
            self.assert_bad_way(EMPTY, value, None)

    def test_no_turn(self):
        for value in NO_TURNS:
            self.assert_bad_way(EXAMPLE, (value,), 0)
            self.assert_bad_way(EXAMPLE, (0, 0, value, 0), 2)
            self.assert_bad_way(EXAMPLE, (0, 0, 0, 0, 1, 1, 1, 1, value), 8)

    def test_step_that_cannot_be_done(self):
        self.assert_bad_way(EXAMPLE, (0, 1), 1)
        self.assert_bad_way(EXAMPLE, (0,) * 5, 4)
        self.assert_bad_way(EXAMPLE, (0, 0, 0, 0, 1, 1, 1, 1, 0), 8)
        self.assert_bad_way(EMPTY, (0,), 0)
        self.assert_bad_way(STUCK, (0, 1, 1), 2)

    def test_unfinished(self):
        for way in ((), (0,), (1, 1), (0, 0, 0, 0), (0, 0, 0, 0, 1, 1, 1)):
            self.assert_unfinished(EXAMPLE, way)
        self.assert_unfinished(STUCK, (0, 1))
        self.assert_unfinished(LONGEST, (0, 1) * 11 + (0,))
        self.assert_unfinished(Pair(SHORT, AFTER), ())

    def test_fault_comes_ahead_of_unfinished(self):
        self.assert_bad_way(EXAMPLE, (0, 0, 2), 2)
        self.assert_bad_way(EXAMPLE, (True,), 0)
        self.assert_bad_way(EXAMPLE, (1, 0), 1)
        self.assert_bad_way(EXAMPLE, [], None)
        self.assert_bad_way(STUCK, (0, 1, 0), 2)


class GeneralTest(unittest.TestCase):
    def test_arguments_are_not_modified_and_calls_repeat(self):
        pair = Pair(SHORT + AFTER, SHORT + AFTER)
        wrong = [0, [1], {"a": 2}]
        for call in (lambda: sides(pair, wrong), lambda: is_whole(pair, (wrong,))):
            with self.assertRaises(BadWay):
                call()
        self.assertEqual(wrong, [0, [1], {"a": 2}])
        for function in (count_whole, torn, lambda pair: sides(pair, (0, 0, 0, 0, 1, 1, 1, 1))):
            self.assertEqual(function(pair), function(pair))
        self.assertEqual(pair, EXAMPLE)

    def test_kinds_of_values(self):
        self.assertIsInstance(torn(EXAMPLE), tuple)
        for which in torn(EXAMPLE):
            self.assertIs(type(which), int)
        self.assertIs(type(count_whole(EXAMPLE)), int)
        self.assertIs(type(count_whole(EMPTY)), int)

    def test_interface_is_defined_where_it_is_listed(self):
        for function in (sides, is_whole, count_whole, torn):
            self.assertEqual(function.__module__, "gridlocks.whole")
            self.assertIs(getattr(whole, function.__name__), function)


if __name__ == "__main__":
    unittest.main()
