"""The whole program: its interface, the main fact on a desk, and what is returned: points 1 to 3."""

import ast
import unittest
from importlib import import_module
from random import Random

from tests.plain_desk import PlainDesk
from tests.reference import WAYS_TO_COUNT, random_assumed, random_matter, told_fitting, told_least, told_tree
from tests.test_desk import desk_with, random_deed
from tests.test_package import FOLDER
from tests.values import holds, pairs
from whoseword.askings import askings, is_askings
from whoseword.cases import fit, is_tree, least
from whoseword.desk import Desk
from whoseword.errors import NotBalanced, WordError
from whoseword.matters import Matter
from whoseword.pairs import classes, fitting, gap, pair_word
from whoseword.rings import balance
from whoseword.tellers import blamed, hangs, teller_word
from whoseword.truths import sides
from whoseword.ways import numbers, ways

INTERFACE = {
    "errors": {name: [] for name in (
        "WordError", "BadMatter", "Unlike", "NotBalanced", "NoFit", "BadSaying", "NoSaying", "Contradicts", "TooMuch",
        "NothingDone")},
    "matters": {"Matter": ["__init__", "records", "sayings", "tellers", "__len__", "__eq__"]},
    "truths": {name: None for name in (
        "is_truth", "word_in", "wrong_sayings", "wrong_tellers", "obeys", "contradiction", "sides")},
    "rings": {name: None for name in ("balance", "is_ring", "is_odd")},
    "turned": {"turned": None},
    "cases": {name: None for name in ("is_odd_lot", "fit", "is_tree", "least")},
    "pairs": {name: None for name in ("pair_word", "gap", "fitting", "classes")},
    "ways": {name: None for name in ("ways", "numbers")},
    "tellers": {name: None for name in ("teller_word", "blamed", "hangs")},
    "askings": {name: None for name in ("askings", "is_askings")},
    "desk": {
        "Desk": ["__init__", "__len__", "say", "take_back", "settle", "undo", "matter_now", "numbers_now", "settled", "ask",
                 "fork"],
        "Answer": ["word", "shown", "stands"],
    },
}


def lists_in(value):
    """All lists in a value that a call returned, itself included."""
    if isinstance(value, (list, tuple)):
        return ([value] if isinstance(value, list) else []) + [found for part in value for found in lists_in(part)]
    return []


class Interface(unittest.TestCase):
    def test_each_name_is_defined_in_its_file(self):
        for file, names in INTERFACE.items():
            body = ast.parse((FOLDER / (file + ".py")).read_text()).body
            functions = [node.name for node in body if isinstance(node, ast.FunctionDef)]
            kinds = {node.name: node for node in body if isinstance(node, ast.ClassDef)}
            for name, methods in names.items():
                if methods is None:
                    self.assertIn(name, functions)
                    continue
                own = [node.name for node in kinds[name].body if isinstance(node, ast.FunctionDef)]
                self.assertLessEqual(set(methods), set(own), name)

    def test_each_error_is_a_direct_subclass(self):
        errors = import_module("whoseword.errors")
        for name in INTERFACE["errors"]:
            if name != "WordError":
                self.assertEqual(getattr(errors, name).__bases__, (WordError,))
        self.assertEqual(WordError.__bases__, (ValueError,))


class MainFact(unittest.TestCase):
    def test_a_truth_or_a_tree_and_never_both(self):
        for seed in range(60):
            chance = Random(seed)
            records = chance.randrange(1, 6)
            matter = random_matter(seed, records, chance.randrange(13))
            assumed = random_assumed(seed, records, seed % 4)
            left = told_fitting(matter, assumed, len(matter), "sayings")
            for by in WAYS_TO_COUNT:
                for most in range(5):
                    told, proof = fit(matter, assumed, most, by=by)
                    fits = told_fitting(matter, assumed, most, by)
                    self.assertEqual(told, "yes" if fits else "no")
                    if fits:
                        self.assertIn(proof, fits)
                    else:
                        self.assertTrue(told_tree(matter, left, most, proof, by))
                    self.assertIs(is_tree(matter, assumed, most, proof, by=by), not fits)

    def test_the_words_of_pairs_tellers_and_askings_agree(self):
        for seed in range(30):
            chance = Random(seed)
            records = chance.randrange(2, 6)
            desk, plain = Desk(records), PlainDesk(records)
            for _ in range(30):
                random_deed(chance, desk, plain)
            matter, assumed = desk.matter_now(), desk.settled()
            for by in WAYS_TO_COUNT:
                most = least(matter, assumed, by=by) + seed % 2
                truths = fitting(matter, assumed, most, by=by)
                self.assertEqual(truths, told_fitting(matter, assumed, most, by))
                tree = askings(matter, assumed, most, by=by)
                self.assertIs(is_askings(matter, assumed, most, tree, by=by), True)
                self.assertEqual(tree[0] == "one", len(truths) == 1)
                sure = classes(matter, assumed, most, by=by)
                for first, second in pairs(records):
                    together = any({first, second} <= set(ones + others) for ones, others in sure)
                    answer = desk.ask(first, second, most, by=by)
                    self.assertEqual(answer.word() in ("same", "other"), together)
                    self.assertEqual(answer.word(), pair_word(matter, assumed, first, second, most, by=by)[0])
            wrong = least(matter, assumed, by="tellers")
            self.assertEqual(min(len(lot) for lot in blamed(matter, assumed)), wrong)

    def test_ways_tell_how_sure_a_pair_is(self):
        """Without a wrong saying, a pair stays sure up to one less than the number of ways, and a settled one beyond."""
        for seed in range(30):
            chance = Random(seed)
            records = chance.randrange(2, 6)
            truth = [record for record in range(1, records) if chance.random() < 0.5]
            desk = Desk(records)
            for _ in range(chance.randrange(13)):
                first, second = sorted(chance.sample(range(records), 2))
                word = "same" if holds(records, truth, (first, second, "same")) else "other"
                desk.say((chance.choice(("ann", "bob")), first, second, word))
            for first, second, number in numbers(desk.matter_now()):
                word = "same" if holds(records, truth, (first, second, "same")) else "other"
                self.assertEqual(max(gap(desk.matter_now(), [], first, second)), number)
                for most in range(5):
                    self.assertEqual(desk.ask(first, second, most).word(), word if most < number else "open")


class Returned(unittest.TestCase):
    def test_no_two_lists_are_the_same_object(self):
        matter = Matter(4, [("ann", 0, 1, "same"), ("bob", 0, 1, "same"), ("ann", 1, 2, "other"), ("eve", 2, 3, "same")])
        desk = desk_with(4, matter.sayings())
        desk.settle(0, 1, "same")
        calls = [
            matter.sayings, matter.tellers, lambda: sides(matter, []), lambda: balance(matter), lambda: fit(matter, [], 0),
            lambda: pair_word(matter, [], 0, 2, 1), lambda: fitting(matter, [], 1), lambda: classes(matter, [], 1),
            lambda: ways(matter, 0, 2), lambda: ways(matter, 0, 3), lambda: numbers(matter), lambda: blamed(matter, []),
            lambda: teller_word(matter, [], "ann", 1), lambda: hangs(matter, [], 0, 1, 1), lambda: askings(matter, [], 1),
            desk.settled, desk.matter_now().sayings, desk.fork().settled, desk.numbers_now, desk.ask(0, 1, 1).shown,
        ]
        kept = [call() for call in calls + calls]
        lists = [found for value in kept for found in lists_in(value)]
        self.assertGreater(len(lists), 15)
        self.assertEqual(len({id(found) for found in lists}), len(lists))
        self.assertEqual(kept[:len(calls)], kept[len(calls):])
        for found in lists:
            found.append("changed")
        self.assertEqual([call() for call in calls], [call() for call in calls])
        self.assertFalse(any("changed" in found for call in calls for found in lists_in(call())))

    def test_equal_matters_of_other_objects(self):
        for seed in range(10):
            matter = random_matter(seed, 5, 10)
            twin = Matter(5, matter.sayings())
            assumed = random_assumed(seed, 5, seed % 3)
            most = told_least(matter, assumed, "tellers") + 1
            for call in (
                lambda one: fit(one, assumed, most), lambda one: askings(one, list(assumed), most, by="tellers"),
                lambda one: blamed(one, list(assumed)), lambda one: hangs(one, assumed, 1, 3, most),
                lambda one: [teller_word(one, assumed, teller, most) for teller in one.tellers()],
                lambda one: [answer.shown() for answer in [desk_with(5, one.sayings()).ask(1, 3, most)]],
            ):
                self.assertEqual(call(matter), call(twin))
            try:
                self.assertEqual(ways(matter, 1, 3), ways(twin, 1, 3))
            except NotBalanced as caught:
                self.assertEqual(balance(twin), ("no", caught.ring))


if __name__ == "__main__":
    unittest.main()
