import itertools
import math
import unittest

from gridlocks import ways
from gridlocks.errors import BadPlace, BadWay
from gridlocks.pairs import Pair, blocks
from gridlocks.ways import (
    count_stuck, count_ways, is_barred, places, shortest_stuck, stuck, sure, word,
)
from samples import judge, sample_pairs

WORK = ("work",)
SHORT = (("take", 0), ("leave", 0))
NESTED = (("take", 0), ("take", 1), ("leave", 1), ("leave", 0))
CROSSED = (("take", 1), ("take", 0), ("leave", 0), ("leave", 1))
EXAMPLE = Pair(NESTED, CROSSED)
# Behind both first steps, work can be done, but nothing leads to the end any more.
LATE = Pair((("take", 0), WORK, ("take", 1), ("leave", 1), ("leave", 0)), CROSSED)
# The same twice: each half of one program can meet each half of the other one.
TWICE = Pair(NESTED + NESTED, CROSSED + CROSSED)
EMPTY = Pair((), ())
LONGEST = Pair((WORK,) * 12, (WORK,) * 12)

NO_TUPLES = [None, True, False, 0, 1, -1, "", "00", [], [0], [0, 0], {}, {0: 0}]
NO_TURNS = [None, True, False, -1, 2, 10 ** 30, "", "0", (), (0,), [], [0], {}, {0: 1}]


class AllWaysTest(unittest.TestCase):
    def test_against_trying_all_ways(self):
        pairs = sample_pairs()
        self.assertGreater(len(pairs), 1000)
        many_caught = 0
        for pair in pairs:
            free, done, caught, seen, comes = judge(pair)
            many_caught += bool(caught)
            about = (pair.one, pair.other)
            self.assertEqual(count_ways(pair), len(done), about)
            self.assertEqual(count_stuck(pair), len(caught), about)
            self.assertEqual(stuck(pair), sorted({seen[way] for way in caught}), about)
            self.assertEqual(sure(pair), sorted(place for place in comes if not comes[place]), about)
            least = min(caught, key=lambda way: (len(way), way), default=None)
            self.assertEqual(shortest_stuck(pair), least, about)
        self.assertGreater(many_caught, 100)

    def test_words_and_places_of_all_ways(self):
        for pair in sample_pairs()[::29] + [EXAMPLE, LATE, EMPTY]:
            free, done, caught, seen, comes = judge(pair)
            for way, place in seen.items():
                self.assertEqual(places(pair, way), [seen[way[:k]] for k in range(len(way) + 1)])
                expected = "free" if comes[place] else "sure"
                expected = "done" if way in done else "stuck" if way in caught else expected
                self.assertEqual(word(pair, way), expected)
                for which in (0, 1):
                    if way + (which,) not in seen:
                        with self.assertRaises(BadWay) as error:
                            places(pair, way + (which,))
                        self.assertEqual(error.exception.index, len(way))

    def test_barred_places_of_all_grids(self):
        for pair in sample_pairs()[::11]:
            free = judge(pair)[0]
            for place in free:
                found = is_barred(pair, place)
                self.assertIs(found, not free[place])
                inside = [
                    first <= place[0] <= last and begin <= place[1] <= end
                    for _, first, last, begin, end in blocks(pair)
                ]
                self.assertIs(found, any(inside))


class BarredTest(unittest.TestCase):
    def assert_bad_place(self, pair, value):
        with self.assertRaises(BadPlace):
            is_barred(pair, value)

    def test_example(self):
        self.assertIs(is_barred(EXAMPLE, (1, 2)), True)

    def test_all_of_the_example(self):
        barred = [place for place in itertools.product(range(5), range(5)) if is_barred(EXAMPLE, place)]
        self.assertEqual(barred, [(1, 2), (2, 1), (2, 2), (2, 3), (3, 2)])

    def test_first_and_last_place(self):
        for pair in (EXAMPLE, LATE, TWICE, LONGEST, EMPTY, Pair(SHORT, ()), Pair((), SHORT)):
            end = (len(pair.one), len(pair.other))
            self.assertIs(is_barred(pair, (0, 0)), False)
            self.assertIs(is_barred(pair, end), False)
            self.assertIs(is_barred(pair, (0, end[1])), False)
            self.assertIs(is_barred(pair, (end[0], 0)), False)
            for beyond in ((end[0] + 1, end[1]), (end[0], end[1] + 1), (-1, 0), (0, -1)):
                self.assert_bad_place(pair, beyond)

    def test_sides_are_not_mixed_up(self):
        pair = Pair(SHORT, (WORK, WORK, ("take", 0), ("leave", 0)))
        self.assertIs(is_barred(pair, (1, 3)), True)
        self.assertIs(is_barred(pair, (1, 4)), False)
        self.assert_bad_place(pair, (3, 1))

    def test_no_place(self):
        wrong = NO_TUPLES + [
            (), (0,), (1, 2, 0), (0, 0, 0), [1, 2], "12", {1: 2}, ((1, 2),), (1, (2,)),
            (True, 2), (1, True), (False, 0), (0, False), (None, 0), (0, None), ("1", 2), (1, "2"),
            (5, 0), (0, 5), (10 ** 30, 0), (0, 10 ** 30), (-1, -1), (-10 ** 30, 0), (-4, 0),
            ([], 0), (0, []), ({}, 0), (0, {}), ((), 0), (0, (0,)),
        ]
        for value in wrong:
            self.assert_bad_place(EXAMPLE, value)


class PlacesTest(unittest.TestCase):
    def assert_bad_way(self, pair, way, index):
        for function in (places, word):
            with self.assertRaises(BadWay) as caught:
                function(pair, way)
            self.assertEqual(caught.exception.index, index, way)
            self.assertNotIsInstance(caught.exception.index, bool)

    def test_example(self):
        self.assertEqual(places(EXAMPLE, (0, 0)), [(0, 0), (1, 0), (2, 0)])
        self.assert_bad_way(EXAMPLE, (0, 1, 1), 2)

    def test_empty_way(self):
        for pair in (EXAMPLE, LONGEST, EMPTY):
            self.assertEqual(places(pair, ()), [(0, 0)])

    def test_way_to_the_end(self):
        self.assertEqual(
            places(EXAMPLE, (1, 1, 1, 1, 0, 0, 0, 0)),
            [(0, 0), (0, 1), (0, 2), (0, 3), (0, 4), (1, 4), (2, 4), (3, 4), (4, 4)],
        )
        found = places(LONGEST, (0, 1) * 12)
        self.assertEqual((len(found), found[-1]), (25, (12, 12)))

    def test_way_that_gets_stuck(self):
        self.assertEqual(places(EXAMPLE, (1, 0)), [(0, 0), (0, 1), (1, 1)])
        self.assert_bad_way(EXAMPLE, (1, 0, 0), 2)
        self.assert_bad_way(EXAMPLE, (1, 0, 1), 2)

    def test_no_tuple(self):
        for value in NO_TUPLES:
            self.assert_bad_way(EXAMPLE, value, None)
            self.assert_bad_way(EMPTY, value, None)

    def test_no_turn(self):
        for value in NO_TURNS:
            self.assert_bad_way(EXAMPLE, (value,), 0)
            self.assert_bad_way(EXAMPLE, (0, 0, value, 0), 2)
            self.assert_bad_way(EXAMPLE, (0, 0, 0, 0, 1, 1, 1, 1, value), 8)

    def test_beyond_the_end_of_a_program(self):
        self.assert_bad_way(EMPTY, (0,), 0)
        self.assert_bad_way(EMPTY, (1,), 0)
        self.assert_bad_way(EXAMPLE, (0,) * 5, 4)
        self.assert_bad_way(EXAMPLE, (1,) * 5, 4)
        self.assert_bad_way(LONGEST, (0,) * 13, 12)
        self.assert_bad_way(LONGEST, (0, 1) * 13, 24)

    def test_first_of_several_faults(self):
        self.assert_bad_way(EXAMPLE, (0, 1, 1, None), 2)
        self.assert_bad_way(EXAMPLE, (0, None, 1, 1), 1)
        self.assert_bad_way(EXAMPLE, (0, 0, 0, 0, 0, 2), 4)
        self.assert_bad_way(EXAMPLE, (2, True, 1), 0)


class WordTest(unittest.TestCase):
    def test_example(self):
        found = [word(EXAMPLE, way) for way in ((0,), (1, 0), (1, 1, 1, 1, 0, 0, 0, 0), ())]
        self.assertEqual(found, ["free", "stuck", "done", "free"])

    def test_empty_programs(self):
        self.assertEqual(word(EMPTY, ()), "done")
        self.assertEqual(word(Pair(SHORT, ()), ()), "free")
        self.assertEqual(word(Pair(SHORT, ()), (0, 0)), "done")
        self.assertEqual(word(Pair((), SHORT), (1, 1)), "done")

    def test_sure(self):
        self.assertEqual(word(LATE, (0,)), "free")
        self.assertEqual(word(LATE, (1, 0)), "sure")
        self.assertEqual(word(LATE, (0, 1)), "sure")
        self.assertEqual(word(LATE, (0, 1, 0)), "stuck")
        self.assertEqual(word(LATE, (0, 0, 1)), "stuck")

    def test_one_program_waits_for_the_other(self):
        pair = Pair(SHORT, SHORT)
        self.assertEqual(word(pair, (0,)), "free")
        self.assertEqual(word(pair, (0, 0, 1)), "free")
        self.assertEqual(word(pair, (0, 0, 1, 1)), "done")


class StuckTest(unittest.TestCase):
    def test_example(self):
        found = [stuck(EXAMPLE), sure(EXAMPLE), shortest_stuck(EXAMPLE)]
        found += [count_ways(EXAMPLE), count_stuck(EXAMPLE)]
        self.assertEqual(found, [[(1, 1)], [(1, 1)], (0, 1), 4, 2])

    def test_nothing_gets_stuck(self):
        for pair in (EMPTY, LONGEST, Pair(SHORT, SHORT), Pair(NESTED, NESTED), Pair((), NESTED)):
            self.assertEqual([stuck(pair), sure(pair), count_stuck(pair)], [[], [], 0])
            self.assertIsNone(shortest_stuck(pair))

    def test_counts_of_ways(self):
        self.assertEqual(count_ways(EMPTY), 1)
        self.assertEqual(count_ways(Pair(NESTED, ())), 1)
        self.assertEqual(count_ways(Pair(SHORT, SHORT)), 2)
        self.assertEqual(count_ways(LONGEST), math.comb(24, 12))

    def test_sure_has_more_than_stuck(self):
        self.assertEqual(stuck(LATE), [(2, 1)])
        self.assertEqual(sure(LATE), [(1, 1), (2, 1)])
        self.assertEqual(shortest_stuck(LATE), (0, 0, 1))
        self.assertEqual(count_stuck(LATE), 3)

    def test_several_places_ascend_and_the_shortest_way_counts_first(self):
        self.assertEqual(stuck(TWICE), [(1, 1), (1, 5), (5, 1), (5, 5)])
        self.assertEqual(shortest_stuck(TWICE), (0, 1))

    def test_places_ascend_though_a_later_one_is_come_to_first(self):
        one = tuple(zip(("take", "take", "leave", "take", "take", "leave", "leave", "leave"),
                        (0, 1, 0, 2, 3, 1, 2, 3)))
        other = tuple(zip(("take",) * 4 + ("leave",) * 4, (3, 2, 0, 1) * 2))
        pair = Pair(one, other)
        self.assertEqual(stuck(pair), sorted(stuck(pair)))
        self.assertEqual([place in stuck(pair) for place in ((3, 3), (4, 1))], [True, True])
        self.assertEqual(sure(pair), sorted(sure(pair)))

    def test_least_of_the_shortest(self):
        one = NESTED + (("take", 2), ("take", 3), ("leave", 3), ("leave", 2))
        other = (("take", 3), ("take", 2), ("leave", 2), ("leave", 3)) + CROSSED
        pair = Pair(one, other)
        self.assertEqual(stuck(pair), [(1, 5), (5, 1)])
        self.assertEqual(shortest_stuck(pair), (0, 0, 0, 0, 0, 1))

    def test_shortest_before_least(self):
        # With one step more, the way that is less is no longer among the shortest.
        one = NESTED + (WORK, ("take", 2), ("take", 3), ("leave", 3), ("leave", 2))
        other = (("take", 3), ("take", 2), ("leave", 2), ("leave", 3)) + CROSSED
        pair = Pair(one, other)
        self.assertEqual(stuck(pair), [(1, 5), (6, 1)])
        self.assertEqual(shortest_stuck(pair), (0, 1, 1, 1, 1, 1))

    def test_places_to_which_no_way_comes_do_not_count(self):
        # Place (3, 3) is not barred, but all four places around it are.
        one = (("take", 0), ("take", 1), ("leave", 0), ("take", 0), ("leave", 0), ("leave", 1))
        other = (("take", 0), ("take", 1), ("leave", 1), ("take", 1), ("leave", 0), ("leave", 1))
        pair = Pair(one, other)
        around = [is_barred(pair, place) for place in ((2, 3), (3, 2), (3, 3), (3, 4), (4, 3))]
        self.assertEqual(around, [True, True, False, True, True])
        self.assertEqual([stuck(pair), sure(pair)], [[(3, 1)], [(3, 1)]])


class GeneralTest(unittest.TestCase):
    def test_returned_lists_are_new_and_calls_repeat(self):
        for function in (stuck, sure, lambda pair: places(pair, (0, 1))):
            first = function(LATE)
            kept = list(first)
            first.append(None)
            self.assertEqual(function(LATE), kept)
        for function in (shortest_stuck, count_ways, count_stuck):
            self.assertEqual(function(TWICE), function(TWICE))

    def test_arguments_are_not_modified(self):
        pair = Pair(NESTED, CROSSED)
        wrong = [0, [1], {"a": 2}]
        for call in (lambda: places(pair, wrong), lambda: word(pair, (wrong,)), lambda: is_barred(pair, wrong)):
            with self.assertRaises(ValueError):
                call()
        self.assertEqual(wrong, [0, [1], {"a": 2}])
        self.assertEqual(pair, EXAMPLE)
        self.assertEqual([stuck(pair), count_ways(pair)], [[(1, 1)], 4])

    def test_kinds_of_values(self):
        self.assertIsInstance(stuck(LATE), list)
        self.assertIsInstance(sure(LATE), list)
        self.assertIsInstance(places(LATE, ()), list)
        self.assertIsInstance(shortest_stuck(LATE), tuple)
        for number in (count_ways(LATE), count_stuck(EMPTY)):
            self.assertNotIsInstance(number, bool)
            self.assertIsInstance(number, int)
        for place in stuck(TWICE) + sure(TWICE) + places(TWICE, (0, 0)):
            self.assertIsInstance(place, tuple)

    def test_interface_is_defined_where_it_is_listed(self):
        for function in (is_barred, places, word, stuck, sure, shortest_stuck, count_ways, count_stuck):
            self.assertEqual(function.__module__, "gridlocks.ways")
            self.assertIs(getattr(ways, function.__name__), function)


if __name__ == "__main__":
    unittest.main()
