import functools
import itertools
import unittest

from gridlocks import mending
from gridlocks.errors import BadSize, GridError
from gridlocks.mending import mends
from gridlocks.pairs import Pair
from gridlocks.ways import count_stuck
from samples import busy_programs, held, short_programs, tangled_programs

WORK = ("work",)
SHORT = (("take", 0), ("leave", 0))
NESTED = (("take", 0), ("take", 1), ("leave", 1), ("leave", 0))
CROSSED = (("take", 1), ("take", 0), ("leave", 0), ("leave", 1))
EXAMPLE = Pair(NESTED, CROSSED)
EMPTY = Pair((), ())

NO_SIZES = [
    None, True, False, -1, 13, -12, 10 ** 30, -10 ** 30, "", "0", "12", (), (0,), [], [1], {}, {0: 1},
]


def take(*locks):
    return tuple(("take", lock) for lock in locks)


def leave(*locks):
    return tuple(("leave", lock) for lock in locks)


@functools.lru_cache(maxsize=None)
def gets_stuck(one, other):
    """Tell whether some way gets stuck, by going to all places to which one comes."""
    seen, ahead = set(), [(0, 0)]
    while ahead:
        i, j = ahead.pop()
        if (i, j) in seen:
            continue
        seen.add((i, j))
        turns = [
            (a, b) for a, b in ((i + 1, j), (i, j + 1))
            if a <= len(one) and b <= len(other) and not held(one, a) & held(other, b)
        ]
        if not turns and (i, j) != (len(one), len(other)):
            return True
        ahead.extend(turns)
    return False


def exchanged(programs, exchange):
    """The programs behind an exchange, or None if its steps do not both take."""
    which, index = exchange
    steps = list(programs[which])
    both = steps[index:index + 2]
    if [step[0] for step in both] != ["take", "take"]:
        return None
    steps[index:index + 2] = reversed(both)
    return tuple(tuple(steps) if k == which else programs[k] for k in (0, 1))


def all_rows(programs, many):
    """All rows of so many exchanges, ascending, with the programs behind each."""
    if many == 0:
        yield [], programs
        return
    for which in (0, 1):
        for index in range(len(programs[which])):
            made = exchanged(programs, (which, index))
            if made:
                for row, last in all_rows(made, many - 1):
                    yield [(which, index)] + row, last


def first_row(pair, most):
    """The least of the shortest rows that mend, by trying all rows one by one."""
    for many in range(most + 1):
        for row, programs in all_rows((pair.one, pair.other), many):
            if not gets_stuck(*programs):
                return row
    return None


def behind(pair, row):
    programs = (pair.one, pair.other)
    for exchange in row:
        programs = exchanged(programs, exchange)
    return Pair(*programs)


class AllRowsTest(unittest.TestCase):
    def compare(self, pairs, mosts):
        needed = {}
        for pair in pairs:
            for most in mosts:
                expected = first_row(pair, most)
                self.assertEqual(mends(pair, most), expected, (pair.one, pair.other, most))
            if expected is None:
                needed[None] = needed.get(None, 0) + 1
            else:
                needed[len(expected)] = needed.get(len(expected), 0) + 1
        return needed

    def test_short_programs(self):
        programs = list(short_programs())
        pairs = [Pair(*both) for both in itertools.product(programs, programs)]
        needed = self.compare([pair for pair in pairs if gets_stuck(pair.one, pair.other)], range(4))
        self.assertGreater(needed[1], 3)

    def test_busy_programs(self):
        programs = busy_programs()
        pairs = [Pair(*both) for both in itertools.product(programs, programs)][::3]
        needed = self.compare(pairs, range(4))
        self.assertGreater(min(needed[None], needed[0], needed[1]), 5)

    def test_tangled_programs(self):
        programs = tangled_programs()
        pairs = [Pair(*both) for both in itertools.product(programs, programs)][::13]
        needed = self.compare(pairs, range(4))
        self.assertGreater(min(needed[None], needed[0], needed[1], needed[2]), 5)

    def test_programs_that_take_all_ahead(self):
        programs = [
            take(*taken) + leave(*left)
            for taken in itertools.permutations(range(4))
            for left in (taken, taken[::-1], (1, 3, 0, 2))
        ]
        pairs = [Pair(*both) for both in itertools.product(programs, programs)][::59]
        needed = self.compare(pairs, (0, 2, 3))
        self.assertGreater(min(needed[0], needed[1], needed[2], needed[3]), 1)

    def test_few_exchanges_but_many_allowed(self):
        pairs = [
            EXAMPLE, EMPTY, Pair(SHORT, NESTED),
            Pair(NESTED, (("take", 1), WORK, ("take", 0), ("leave", 0), ("leave", 1))),
            Pair(NESTED[:1] + (WORK,) + NESTED[1:], CROSSED[:1] + (WORK,) + CROSSED[1:]),
            Pair(take(0) + (WORK,) + take(2, 1) + leave(0, 1, 2), take(1) + (WORK,) + take(0) + leave(0, 1)),
        ]
        self.compare(pairs, range(13))


class MendsTest(unittest.TestCase):
    def test_example(self):
        self.assertEqual([mends(EXAMPLE, 1), mends(EXAMPLE, 0), mends(EMPTY, 0)], [[(0, 0)], None, []])

    def test_nothing_to_mend(self):
        longest = Pair((WORK,) * 12, (WORK,) * 12)
        for pair in (EMPTY, longest, Pair(NESTED, ()), Pair((), NESTED), Pair(SHORT, SHORT),
                     Pair(NESTED, NESTED), Pair(CROSSED, CROSSED), Pair(NESTED, take(2, 3) + leave(2, 3))):
            for most in (0, 1, 12):
                self.assertEqual(mends(pair, most), [])

    def test_more_allowed_than_needed(self):
        for most in range(1, 13):
            self.assertEqual(mends(EXAMPLE, most), [(0, 0)])

    def test_program_1_if_the_program_0_cannot(self):
        pair = Pair((("take", 0), WORK, ("take", 1), ("leave", 1), ("leave", 0)), CROSSED)
        self.assertEqual(mends(pair, 12), [(1, 0)])
        self.assertEqual(mends(Pair(pair.other, pair.one), 12), [(0, 0)])

    def test_index_counts_all_steps(self):
        pair = Pair((WORK,) + SHORT + (WORK,) + NESTED, CROSSED)
        self.assertEqual(mends(pair, 12), [(0, 4)])

    def test_several(self):
        # The lock that both need at last comes to the front step by step.
        pair = Pair((("take", 0), WORK) + take(1, 2) + leave(0, 1, 2), take(1, 2, 0) + leave(0, 1, 2))
        self.assertEqual(mends(pair, 12), [(1, 1), (1, 0)])
        self.assertEqual(mends(pair, 2), [(1, 1), (1, 0)])
        self.assertIsNone(mends(pair, 1))
        self.assertIsNone(mends(pair, 0))

    def test_several_in_both_programs(self):
        pair = Pair(take(0, 1, 2, 3) + leave(0, 1, 2, 3), take(3, 2, 1, 0) + leave(0, 1, 2, 3))
        found = mends(pair, 12)
        self.assertEqual(found, first_row(pair, 3))
        self.assertEqual(len(found), 3)
        self.assertIsNone(mends(pair, 2))
        self.assertGreater(count_stuck(pair), 0)
        self.assertEqual(count_stuck(behind(pair, found)), 0)

    def test_least_of_several(self):
        pair = Pair(NESTED + NESTED, CROSSED)
        self.assertEqual(mends(pair, 12), [(1, 0)])
        pair = Pair(NESTED + take(2, 3) + leave(2, 3), CROSSED + take(3, 2) + leave(2, 3))
        self.assertEqual(mends(pair, 12), [(0, 0), (0, 4)])
        self.assertIsNone(mends(pair, 1))

    def test_what_no_exchange_mends(self):
        late = (WORK, ("take", 1), ("leave", 1), ("leave", 0))
        pairs = [
            Pair((("take", 0),) + late, (("take", 1), WORK, ("take", 0), ("leave", 1), ("leave", 0))),
            Pair((("take", 0),) + late, take(1) + (WORK,) + take(2, 3, 0) + leave(0, 1, 2, 3)),
        ]
        for pair in pairs:
            self.assertGreater(count_stuck(pair), 0)
            for most in (0, 1, 2, 12):
                self.assertIsNone(mends(pair, most))

    def test_only_takings_are_exchanged(self):
        # Leaving ahead of taking would mend these two, but it is no exchange.
        one = (("take", 0), WORK, ("take", 1), ("leave", 0), ("leave", 1))
        other = (("take", 1), WORK, ("take", 0), ("leave", 1), ("leave", 0))
        self.assertIsNone(mends(Pair(one, other), 12))

    def test_twelve_steps(self):
        one = take(0, 1, 2, 3) + leave(0, 1, 2, 3) + take(0, 1) + leave(0, 1)
        other = take(3, 2, 1, 0) + leave(3, 2, 1, 0) + take(1, 0) + leave(1, 0)
        pair = Pair(one, other)
        found = mends(pair, 12)
        self.assertEqual(found, [(0, 0), (0, 8), (1, 1), (1, 0)])
        self.assertEqual(found, first_row(pair, 4))
        self.assertIsNone(mends(pair, 3))
        self.assertEqual(count_stuck(behind(pair, found)), 0)
        self.assertIsNone(mends(Pair(one, take(3) + (WORK,) * 4 + take(2, 1, 0) + leave(3, 2, 1, 0)), 0))

    def test_twelve_steps_that_no_exchange_mends(self):
        one = take(0, 1, 2) + leave(1, 2) + take(1, 2, 3) + leave(0, 1, 2, 3)
        other = take(3, 2, 1) + leave(1, 2) + take(1, 2, 0) + leave(0, 1, 2, 3)
        self.assertIsNone(mends(Pair(one, other), 12))


class ErrorTest(unittest.TestCase):
    def test_no_size(self):
        for pair in (EXAMPLE, EMPTY):
            for value in NO_SIZES:
                with self.assertRaises(BadSize) as caught:
                    mends(pair, value)
                self.assertIsInstance(caught.exception, GridError)

    def test_limits(self):
        self.assertEqual(mends(EXAMPLE, 12), [(0, 0)])
        self.assertEqual(mends(EMPTY, 12), [])
        self.assertIsNone(mends(EXAMPLE, 0))


class GeneralTest(unittest.TestCase):
    def test_returned_lists_are_new_and_calls_repeat(self):
        pair = Pair(NESTED, CROSSED)
        first = mends(pair, 3)
        first.append(None)
        self.assertEqual(mends(pair, 3), [(0, 0)])
        empty = mends(EMPTY, 0)
        empty.append(None)
        self.assertEqual(mends(EMPTY, 0), [])
        self.assertEqual(pair, EXAMPLE)

    def test_arguments_are_not_modified(self):
        wrong = [0, [1], {"a": 2}]
        with self.assertRaises(BadSize):
            mends(EXAMPLE, wrong)
        self.assertEqual(wrong, [0, [1], {"a": 2}])

    def test_kinds_of_values(self):
        found = mends(EXAMPLE, 1)
        self.assertIs(type(found), list)
        for exchange in found:
            self.assertIs(type(exchange), tuple)
            self.assertEqual([type(number) for number in exchange], [int, int])

    def test_interface_is_defined_where_it_is_listed(self):
        self.assertEqual(mends.__module__, "gridlocks.mending")
        self.assertIs(mending.mends, mends)
        self.assertEqual(mends(pair=EXAMPLE, most=1), [(0, 0)])


if __name__ == "__main__":
    unittest.main()
