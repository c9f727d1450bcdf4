import unittest

from gridlocks.errors import BadProgram
from gridlocks.pairs import Pair, blocks

WORK = ("work",)
SHORT = (("take", 0), ("leave", 0))
NESTED = (("take", 0), ("take", 1), ("leave", 1), ("leave", 0))
CROSSED = (("take", 1), ("take", 0), ("work",), ("leave", 0), ("leave", 1))

NO_TUPLES = [
    None, True, False, 0, 1, -1, 12, "", "work", "take", [], [WORK], list(SHORT), {}, {0: WORK},
]

NO_STEPS = [
    None, True, False, 0, 1, -1, "", "work", "take", (), [], {}, ["work"], ["take", 0],
    ("work", 0), ("work", None), ("take",), ("leave",), ("take", 0, 0), ("take", 0, None),
    ("Take", 0), ("TAKE", 0), ("hold", 0), ("", 0), ("tak", 0), (0, "take"), (0, 0), (True, 0),
    (None, 0), (None,), (("take",), 0), (["take"], 0), ({}, 0), (("take", 0),), (WORK,),
    ("take", -1), ("take", 4), ("take", 10 ** 30), ("take", True), ("take", False),
    ("take", None), ("take", "0"), ("take", ""), ("take", (0,)), ("take", [0]), ("take", {}),
    ("leave", -1), ("leave", 4), ("leave", True), ("leave", False), ("leave", None),
    ("leave", "0"), ("leave", []), {"take": 0}, {"work": 0},
]


class PairCase(unittest.TestCase):
    def assert_bad(self, one, other, program, index):
        with self.assertRaises(BadProgram) as caught:
            Pair(one, other)
        found = (caught.exception.program, caught.exception.index)
        self.assertEqual(found, (program, index), (one, other))
        for number in found:
            self.assertNotIsInstance(number, bool)

    def assert_bad_program(self, program, index):
        """Check that a program is refused on both sides, whatever is beside it."""
        self.assert_bad(program, (), 0, index)
        self.assert_bad(program, NESTED, 0, index)
        self.assert_bad(program, None, 0, index)
        self.assert_bad((), program, 1, index)
        self.assert_bad(CROSSED, program, 1, index)


class ProgramTest(PairCase):
    def test_example(self):
        self.assert_bad(NESTED, (("take", 0), ("leave", 1)), 1, 1)

    def test_programs_that_are_some(self):
        good = [
            (), (WORK,), SHORT, NESTED, CROSSED, SHORT + SHORT, SHORT * 6, (WORK,) * 12,
            (("take", 3), WORK, ("leave", 3)),
            (("take", 0), ("take", 1), ("leave", 0), ("take", 0), ("leave", 1), ("leave", 0)),
            tuple(("take", lock) for lock in range(4)) + tuple(("leave", lock) for lock in range(4)),
        ]
        for one in good:
            for other in good:
                pair = Pair(one, other)
                self.assertEqual((pair.one, pair.other), (one, other))
                self.assertIsInstance(pair.one, tuple)
                self.assertIsInstance(pair.other, tuple)

    def test_no_tuple(self):
        for value in NO_TUPLES:
            self.assert_bad_program(value, None)

    def test_twelve_and_thirteen_steps(self):
        Pair((WORK,) * 12, (WORK,) * 12)
        self.assert_bad_program((WORK,) * 13, None)
        self.assert_bad_program((WORK,) * 100, None)

    def test_too_long_comes_before_faults_in_steps(self):
        self.assert_bad_program((None,) * 13, None)
        self.assert_bad_program((("leave", 0),) + (WORK,) * 12, None)
        self.assert_bad_program((WORK,) * 12 + (("take", 0),), None)

    def test_no_step(self):
        for value in NO_STEPS:
            self.assert_bad_program((value,), 0)
            self.assert_bad_program(SHORT + (value,), 2)
            self.assert_bad_program((("take", 0), WORK, value, ("leave", 0)), 2)

    def test_no_step_as_twelfth(self):
        self.assert_bad_program((WORK,) * 11 + (None,), 11)

    def test_takes_what_it_holds(self):
        self.assert_bad_program((("take", 2), ("take", 2), ("leave", 2)), 1)
        self.assert_bad_program((("take", 0), ("take", 1), WORK, ("take", 0)), 3)
        self.assert_bad_program(SHORT + (("take", 0), ("take", 0)), 3)

    def test_leaves_what_it_does_not_hold(self):
        self.assert_bad_program((("leave", 0),), 0)
        self.assert_bad_program(SHORT + (("leave", 0),), 2)
        self.assert_bad_program((("take", 3), ("leave", 2), ("leave", 3)), 1)

    def test_holds_at_its_end(self):
        self.assert_bad_program((("take", 0),), 1)
        self.assert_bad_program((("take", 0), WORK), 2)
        self.assert_bad_program((("take", 0), ("take", 1), ("leave", 0)), 3)
        self.assert_bad_program(SHORT + (("take", 0),), 3)
        self.assert_bad_program((WORK,) * 11 + (("take", 3),), 12)

    def test_first_of_several_faults(self):
        self.assert_bad_program((("take", 0), ("leave", 1), None), 1)
        self.assert_bad_program((("take", 0), None, ("leave", 1)), 1)
        self.assert_bad_program((("take", 0), ("take", 0), ("leave", 3)), 1)
        self.assert_bad_program((("take", 0), ("take", 1), ("take", 4)), 2)

    def test_faults_in_both(self):
        self.assert_bad(None, None, 0, None)
        self.assert_bad((("take", 0),), None, 0, 1)
        self.assert_bad((WORK, WORK, None), (None,), 0, 2)
        self.assert_bad((None,), (WORK,) * 13, 0, 0)

    def test_a_lock_that_both_take_is_no_fault(self):
        self.assertEqual(Pair(SHORT, SHORT).other, SHORT)


class EqualityTest(unittest.TestCase):
    def test_equal_if_both_are(self):
        self.assertTrue(Pair(SHORT, NESTED) == Pair(tuple(list(SHORT)), tuple(list(NESTED))))
        self.assertFalse(Pair(SHORT, NESTED) != Pair(SHORT, NESTED))
        self.assertTrue(Pair((), ()) == Pair((), ()))

    def test_not_equal(self):
        pair = Pair(SHORT, NESTED)
        for another in (Pair(NESTED, SHORT), Pair(SHORT, SHORT), Pair(NESTED, NESTED), Pair((), ())):
            self.assertFalse(pair == another)
            self.assertTrue(pair != another)

    def test_equal_to_nothing_of_another_kind(self):
        class Like:
            one, other, _one, _other = SHORT, NESTED, SHORT, NESTED

            def __eq__(self, _):
                return True

        pair = Pair(SHORT, NESTED)
        for value in (None, True, 0, "", (SHORT, NESTED), [SHORT, NESTED], {}, SHORT, object(), Like()):
            self.assertFalse(pair == value)
            self.assertTrue(pair != value)


class BlocksTest(unittest.TestCase):
    def test_example(self):
        self.assertEqual(blocks(Pair(NESTED, CROSSED)), [(0, 1, 3, 2, 3), (1, 2, 2, 1, 4)])

    def test_none(self):
        self.assertEqual(blocks(Pair((), ())), [])
        self.assertEqual(blocks(Pair(SHORT, ())), [])
        self.assertEqual(blocks(Pair((), SHORT)), [])
        self.assertEqual(blocks(Pair((WORK,) * 12, NESTED)), [])
        self.assertEqual(blocks(Pair(SHORT, (("take", 1), ("leave", 1)))), [])

    def test_one_place(self):
        self.assertEqual(blocks(Pair(SHORT, SHORT)), [(0, 1, 1, 1, 1)])

    def test_a_lock_taken_several_times(self):
        found = [(0, 1, 1, 1, 1), (0, 1, 1, 3, 3), (0, 3, 3, 1, 1), (0, 3, 3, 3, 3)]
        self.assertEqual(blocks(Pair(SHORT + SHORT, SHORT + SHORT)), found)
        self.assertEqual(
            blocks(Pair((WORK,) + SHORT, (WORK,) + SHORT + (WORK,) + SHORT)),
            [(0, 2, 2, 2, 2), (0, 2, 2, 5, 5)],
        )

    def test_ascending_by_lock_and_not_by_time(self):
        one = (("take", 3), ("take", 0), ("leave", 3), WORK, ("leave", 0))
        other = (("take", 0), ("leave", 0), ("take", 3), WORK, WORK, ("leave", 3))
        self.assertEqual(blocks(Pair(one, other)), [(0, 2, 4, 1, 1), (3, 1, 2, 3, 5)])

    def test_twelve_steps(self):
        longest = (("take", 2),) + (WORK,) * 10 + (("leave", 2),)
        self.assertEqual(blocks(Pair(longest, longest)), [(2, 1, 11, 1, 11)])


class GeneralTest(PairCase):
    def test_returned_lists_are_new_and_calls_repeat(self):
        pair = Pair(NESTED, CROSSED)
        first = blocks(pair)
        first.clear()
        self.assertEqual(blocks(pair), [(0, 1, 3, 2, 3), (1, 2, 2, 1, 4)])
        self.assertEqual(blocks(pair), blocks(pair))
        self.assertEqual(pair, Pair(NESTED, CROSSED))

    def test_arguments_are_not_modified(self):
        steps = [["take", 0], {"leave": 0}]
        self.assert_bad((steps,), (), 0, 0)
        self.assert_bad(steps, (), 0, None)
        self.assertEqual(steps, [["take", 0], {"leave": 0}])

    def test_interface_is_defined_where_it_is_listed(self):
        self.assertEqual(Pair.__module__, "gridlocks.pairs")
        self.assertEqual(blocks.__module__, "gridlocks.pairs")
        for name in ("__init__", "__eq__", "one", "other"):
            self.assertIn(name, vars(Pair))
        self.assertEqual(Pair(one=SHORT, other=()), Pair(SHORT, ()))

    def test_properties_cannot_be_assigned(self):
        pair = Pair(SHORT, NESTED)
        with self.assertRaises(AttributeError):
            pair.one = ()
        with self.assertRaises(AttributeError):
            pair.other = ()
        self.assertEqual(pair, Pair(SHORT, NESTED))


if __name__ == "__main__":
    unittest.main()
