"""What point 1 of the document promises over the whole program."""

import ast
import copy
import itertools
import pathlib
import unittest

import gridlocks
from gridlocks import crews, likes, mending, orders, pairs, texts, ways, whole
from gridlocks.crews import Crew
from gridlocks.errors import GridError
from gridlocks.pairs import Pair
from gridlocks.runs import Run

WORK = ("work",)
SHORT = (("take", 0), ("leave", 0))
AFTER = (("take", 1), ("leave", 1))
NESTED = (("take", 0), ("take", 1), ("leave", 1), ("leave", 0))
CROSSED = (("take", 1), ("take", 0), ("leave", 0), ("leave", 1))
SECOND = (("take", 1), ("take", 2), ("leave", 2), ("leave", 1))
THIRD = (("take", 2), ("take", 0), ("leave", 0), ("leave", 2))

PAIRS = [
    (NESTED, CROSSED),
    (SHORT + AFTER, SHORT + AFTER),
    (SHORT + SHORT, SHORT),
    ((), (WORK, WORK)),
    (NESTED[:1] + (WORK,) + NESTED[1:], CROSSED + (WORK,)),
]
CREWS = [
    (NESTED, SECOND, THIRD),
    (SHORT + SHORT, SHORT),
    (SHORT, AFTER, (), SHORT),
    ((), ()),
    (NESTED, CROSSED, (WORK,)),
]

WAYS = [
    (), (0,), (1,), (0, 1), (1, 0, 0), (0, 0, 1, 1, 0, 0), (1, 1, 1, 1, 0, 0, 0, 0), (0,) * 4 + (1,) * 4 + (2,) * 4,
    (2, True), (1, 1, None), (0, "1", []), (-1,), None, 7, "01", [0, 1], {0: 1}, True,
]
PLACES = [(0, 0), (1, 1), (2, 1), (9, 9), (True, 0), (1,), None, [0, 0], "ab", {}]
SIZES = [0, 1, 2, 12, 13, -1, True, None, "1", [1], (1,), {}]
TURNS = [0, 1, 0, True, 2, None, [0], 1, "1", (0,), 0]
# Values of every kind where any is allowed.
ANY = [0, -3, 10 ** 20, "", "take", True, False, None, (), (WORK,), (None,), [], [WORK], {}, {"take": 0}]


def answer(call):
    """What a call returns, or which error with which fields it raises."""
    try:
        return call()
    except GridError as error:
        return [type(error).__name__, dict(vars(error))]


def lead(pair):
    """All that runs of a pair answer when led by some turns, taken back and copied."""
    run = Run(pair)
    found = []
    for turn in TURNS:
        found.append(answer(lambda: run.go(turn)))
        found += [run.place(), run.holds(), run.can_go(), run.way, len(run), run.pair == pair]
    twin = run.copy()
    found += [run.undo(), run.way, twin.way, twin.can_go(), twin.undo(), twin.undo(), len(twin), len(run)]
    return found


def pair_questions():
    """Every question about a pair, by its name."""
    found = {
        "one": lambda pair: pair.one,
        "other": lambda pair: pair.other,
        "run": lead,
        "read": lambda pair: pair == texts.read(texts.write(pair)),
    }
    plain = (
        pairs.blocks, ways.stuck, ways.sure, ways.shortest_stuck, ways.count_ways, ways.count_stuck,
        whole.count_whole, whole.torn, texts.write,
    )
    for function in plain:
        found[function.__name__] = function
    for function in (ways.places, ways.word, whole.sides, whole.is_whole):
        found[function.__name__] = lambda pair, ask=function: [answer(lambda: ask(pair, way)) for way in WAYS]
    found["is_barred"] = lambda pair: [answer(lambda: ways.is_barred(pair, place)) for place in PLACES]
    found["mends"] = lambda pair: [answer(lambda: mending.mends(pair, size)) for size in SIZES]
    return found


def crew_questions():
    """Every question about a crew, by its name."""
    found = {"programs": lambda crew: crew.programs, "len": len}
    plain = (
        crews.stuck_standings, crews.least_stuck, crews.count_rows, crews.count_stuck_rows,
        orders.lock_order, orders.at_once, likes.count_like, likes.least_torn,
    )
    for function in plain:
        found[function.__name__] = function
    for function in (crews.standing_of, likes.like_order):
        found[function.__name__] = lambda crew, ask=function: [answer(lambda: ask(crew, row)) for row in WAYS]
    return found


def spoil(value):
    """Change all lists in an answer."""
    if isinstance(value, list):
        for part in value:
            spoil(part)
        value.reverse()
        value.append("spoilt")
    elif isinstance(value, dict):
        value["spoilt"] = True
    elif isinstance(value, tuple):
        for part in value:
            spoil(part)


class RepeatTest(unittest.TestCase):
    def check(self, questions, first, second, fresh):
        """Ask one subject, another one, and the first again, changing the lists in between."""
        kept = {}
        for name, ask in questions.items():
            found = ask(first)
            kept[name] = copy.deepcopy(found)
            spoil(found)
        for name, ask in questions.items():
            spoil(ask(second))
            again = ask(first)
            self.assertEqual(again, kept[name], name)
            spoil(again)
        for name, ask in questions.items():
            self.assertEqual(ask(first), kept[name], name)
            self.assertEqual(ask(fresh), kept[name], name)
        self.assertEqual(first, fresh)

    def test_pairs(self):
        for first, second in itertools.product(PAIRS, PAIRS):
            self.check(pair_questions(), Pair(*first), Pair(*second), Pair(*first))

    def test_crews(self):
        for first, second in itertools.product(CREWS, CREWS):
            self.check(crew_questions(), Crew(first), Crew(second), Crew(first))

    def test_pairs_and_crews_of_the_same_programs(self):
        pair, crew = Pair(NESTED, CROSSED), Crew((NESTED, CROSSED))
        kept = [ask(pair) for ask in pair_questions().values()] + [ask(crew) for ask in crew_questions().values()]
        again = [ask(pair) for ask in pair_questions().values()] + [ask(crew) for ask in crew_questions().values()]
        self.assertEqual(again, kept)
        self.assertEqual(ways.stuck(pair), crews.stuck_standings(crew))

    def test_questions_are_all_of_them(self):
        functions = {
            name for module in (pairs, ways, whole, mending, texts, crews, orders, likes)
            for name, made in vars(module).items()
            if callable(made) and made.__module__ == module.__name__ and not name.startswith("_")
        }
        helpers = {"Pair", "Crew", "word_at", "all_orders", "orders_with"}
        self.assertLessEqual(functions - helpers, {*pair_questions(), *crew_questions()})


class ArgumentsTest(unittest.TestCase):
    def test_any_values_are_refused_and_not_modified(self):
        pair, crew = Pair(NESTED, CROSSED), Crew((NESTED, SECOND, THIRD))
        run = Run(pair)
        calls = {
            "pair": lambda value: Pair(value, ()), "other": lambda value: Pair((), value), "crew": Crew,
            "programs": lambda value: Crew(((), value)), "step": lambda value: Pair((value,), ()),
            "lock": lambda value: Pair((("take", value),), ()), "verb": lambda value: Pair(((value, 0),), ()),
            "is_barred": lambda value: ways.is_barred(pair, value),
            "coordinate": lambda value: ways.is_barred(pair, (0, value)),
            "places": lambda value: ways.places(pair, value), "turn": lambda value: ways.places(pair, (value,)),
            "word": lambda value: ways.word(pair, value), "sides": lambda value: whole.sides(pair, value),
            "is_whole": lambda value: whole.is_whole(pair, value), "mends": lambda value: mending.mends(pair, value),
            "go": lambda value: run.copy().go(value),
            "standing_of": lambda value: crews.standing_of(crew, value),
            "which": lambda value: crews.standing_of(crew, (value,)),
            "like_order": lambda value: likes.like_order(crew, value),
        }
        for name, call in calls.items():
            for value in ANY + [[[0], {1: [2]}], ({"a": [()]},), {"b": ([],)}]:
                kept = copy.deepcopy(value)
                first = answer(lambda: call(value))
                self.assertEqual(answer(lambda: call(value)), first, (name, value))
                self.assertEqual(value, kept, name)
        self.assertEqual((pair, crew), (Pair(NESTED, CROSSED), Crew((NESTED, SECOND, THIRD))))
        self.assertEqual(run.way, ())

    def test_true_and_false_are_no_integers(self):
        pair, crew = Pair(NESTED, CROSSED), Crew((SHORT, SHORT))
        for value in (True, False):
            refused = [
                lambda: Pair((("take", value), ("leave", value)), ()), lambda: ways.is_barred(pair, (value, 0)),
                lambda: ways.places(pair, (value,)), lambda: ways.word(pair, (value,)),
                lambda: whole.sides(pair, (value,)), lambda: mending.mends(pair, value), lambda: Run(pair).go(value),
                lambda: Crew((SHORT, (("take", value), ("leave", value)))),
                lambda: crews.standing_of(crew, (value,)), lambda: likes.like_order(crew, (value,)),
            ]
            for call in refused:
                with self.assertRaises(GridError):
                    call()


class EqualTest(unittest.TestCase):
    def test_equal_to_nothing_of_another_kind(self):
        made = [Pair(SHORT, AFTER), Crew((SHORT, AFTER)), Run(Pair(SHORT, AFTER))]
        for mine, theirs in itertools.permutations(made, 2):
            self.assertFalse(mine == theirs)
            self.assertTrue(mine != theirs)
        for mine in made:
            for value in ANY + [(SHORT, AFTER), [SHORT, AFTER], object()]:
                self.assertFalse(mine == value)
                self.assertFalse(value == mine)


class OutsideTest(unittest.TestCase):
    def test_no_clock_no_randomness_and_no_files(self):
        for path in pathlib.Path(gridlocks.__file__).parent.glob("*.py"):
            for node in ast.walk(ast.parse(path.read_text())):
                if isinstance(node, ast.Import):
                    self.fail(f"{path.name} imports a module")
                if isinstance(node, ast.ImportFrom) and node.module != "itertools":
                    self.assertEqual(node.module.split(".")[0], "gridlocks", path.name)
                if isinstance(node, ast.Name):
                    self.assertNotIn(node.id, ("open", "input", "print", "exec", "eval", "hash", "id"), path.name)


if __name__ == "__main__":
    unittest.main()
