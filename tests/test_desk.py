"""A desk on which sayings come and go: points 2, 3 and 16, and the interface, stage 10."""

import unittest
from copy import deepcopy
from inspect import signature
from random import Random

from tests.plain_desk import PlainDesk
from tests.reference import WAYS_TO_COUNT, random_matter, told_least
from tests.values import WORDS, holds, many_values, nested, pairs
from whoseword import desk as module
from whoseword.cases import fit, least
from whoseword.desk import Answer, Desk
from whoseword.errors import BadSaying, Contradicts, NoSaying, NothingDone, TooMuch, WordError
from whoseword.matters import Matter
from whoseword.pairs import gap, pair_word

SAYINGS = [("ann", 0, 1, "same"), ("bob", 0, 1, "same"), ("ann", 1, 2, "other")]


def desk_with(records, sayings):
    desk = Desk(records)
    for saying in sayings:
        desk.say(saying)
    return desk


def state(desk):
    """All that a desk tells of itself."""
    return [len(desk), desk.numbers_now(), desk.matter_now().sayings(), desk.matter_now().records(), desk.settled()]


def random_saying(chance, records):
    first, second = sorted(chance.sample(range(records), 2))
    return (chance.choice(("ann", "bob", "eve", "dan")), first, second, chance.choice(WORDS))


def random_deed(chance, desk, plain):
    """Do the same on both desks; what the document forbids is not done."""
    kind = chance.choice(("say", "say", "say", "take_back", "take_back", "settle", "undo", "undo"))
    there = list(plain.there())
    if kind == "say" and len(there) < 16 and plain.records > 1:
        saying = random_saying(chance, plain.records)
        return [desk.say(saying), plain.say(saying)]
    if kind == "take_back" and there:
        number = chance.choice(there)
        return [desk.take_back(number), plain.take_back(number)]
    if kind == "settle" and plain.records > 1:
        first, second = sorted(chance.sample(range(plain.records), 2))
        truth = chance.choice(plain.left())
        word = "same" if holds(plain.records, truth, (first, second, "same")) else "other"
        return [desk.settle(first, second, word), plain.settle(first, second, word)]
    if kind == "undo" and plain.deeds:
        return [desk.undo(), plain.undo()]
    return [None, None]


class DeskTest(unittest.TestCase):
    def assert_refused(self, desk, call, error, **attributes):
        """The call raises the error, and changes nothing."""
        before = state(desk)
        with self.assertRaises(error) as caught:
            call()
        self.assertIs(type(caught.exception), error)
        self.assertIsInstance(caught.exception, WordError)
        for name, value in attributes.items():
            self.assertIs(type(getattr(caught.exception, name)), type(value))
            self.assertEqual(getattr(caught.exception, name), value)
        self.assertEqual(state(desk), before)

    def assert_alike(self, desk, plain):
        there = plain.there()
        self.assertEqual(len(desk), len(plain.deeds))
        self.assertEqual([type(desk.numbers_now()), desk.numbers_now()], [tuple, tuple(there)])
        self.assertEqual([type(desk.matter_now()), desk.matter_now()], [Matter, plain.matter()])
        self.assertEqual([type(desk.settled()), desk.settled()], [list, plain.settled()])


class Document(unittest.TestCase):
    def test_the_example(self):
        desk = Desk(3)
        found = [desk.say(("ann", 0, 1, "same")), desk.say(("bob", 0, 1, "same")), desk.say(("ann", 1, 2, "other"))]
        answer = desk.ask(0, 1, 1)
        self.assertEqual(
            found + [answer.word(), answer.shown()[1][0], answer.stands(), desk.take_back(0), answer.stands(), desk.undo(),
                     answer.stands()],
            [0, 1, 2, "same", "no", True, None, False, None, True])
        self.assertEqual(
            [desk.settle(1, 2, "same"), desk.ask(0, 2, 1).word(), desk.say(("eve", 0, 2, "other")), desk.numbers_now(),
             len(desk)],
            [None, "same", 3, (0, 1, 2, 3), 5])


class Say(DeskTest):
    def test_numbers(self):
        for records in range(2, 9):
            desk = Desk(records)
            for number in range(16):
                found = desk.say(("ann", 0, records - 1, "same"))
                self.assertEqual([type(found), found, len(desk)], [int, number, number + 1])
            self.assertEqual(desk.numbers_now(), tuple(range(16)))

    def test_a_number_is_never_given_again(self):
        desk = desk_with(3, SAYINGS)
        desk.take_back(2)
        self.assertEqual(desk.say(SAYINGS[2]), 3)
        desk.undo()
        self.assertEqual(desk.say(SAYINGS[2]), 4)
        for _ in range(len(desk)):
            desk.undo()
        self.assertEqual([len(desk), desk.numbers_now(), desk.say(SAYINGS[0]), desk.numbers_now()], [0, (), 5, (5,)])
        desk.undo()
        self.assertEqual([desk.say(SAYINGS[0]), desk.say(SAYINGS[0])], [6, 7])

    def test_what_is_refused_takes_no_number(self):
        desk = desk_with(3, SAYINGS)
        self.assert_refused(desk, lambda: desk.say(None), BadSaying)
        self.assertEqual(desk.say(SAYINGS[0]), 3)

    def test_equal_sayings(self):
        desk = desk_with(2, [("ann", 0, 1, "same")] * 3)
        desk.take_back(1)
        self.assertEqual([desk.numbers_now(), desk.matter_now()], [(0, 2), Matter(2, [("ann", 0, 1, "same")] * 2)])

    def test_any_values(self):
        good = ("ann", 0, 1, "same")
        for value in many_values() + [
            ("ann", 0, 1), good + (1,), ("ann", 1, 0, "same"), ("ann", 1, 1, "same"), ("ann", 0, 3, "same"), (good,), [good],
            ("ann", -1, 1, "same"), ("ann", False, 1, "same"), ("ann", 0, True, "same"), ("ann", 0, "1", "same"),
            ("Ann", 0, 1, "same"), ("", 0, 1, "same"), ("a" * 9, 0, 1, "same"), ("a1", 0, 1, "same"), (None, 0, 1, "same"),
            ("ann", 0, 1, "Same"), ("ann", 0, 1, "open"), ("ann", 0, 1, None), ("ann", 0, 1, True), ("ann", None, 1, "same"),
            (["ann"], 0, 1, "same"), ("ann", 0, 1, ["same"]), ("ann", [0], 1, "same"), "ann", nested(50, good), list(good),
            {"ann": good}, ("ann", 0, 1, {"same": 1}), ("ann", 0, 1.0, "same"), Matter(2, []), fit(Matter(2, []), [], 0),
        ]:
            desk = Desk(3)
            # False equals 0, and True equals 1.
            if value == good and [type(part) for part in value] == [str, int, int, str]:
                self.assertEqual(desk.say(value), 0)
                continue
            self.assert_refused(desk, lambda: desk.say(value), BadSaying, saying=value)
            with self.assertRaises(BadSaying) as caught:
                desk.say(value)
            self.assertIs(caught.exception.saying, value)

    def test_a_record_that_is_not_there(self):
        for records in range(1, 9):
            desk = Desk(records)
            for first, second in pairs(10):
                if second < records:
                    desk.say(("ann", first, second, "same"))
                    desk.undo()
                else:
                    value = ("ann", first, second, "same")
                    self.assert_refused(desk, lambda: desk.say(value), BadSaying, saying=value)

    def test_sixteen_sayings(self):
        good = ("ann", 0, 1, "same")
        desk = desk_with(2, [good] * 16)
        self.assert_refused(desk, lambda: desk.say(good), TooMuch, limit=16)
        for value in many_values()[:-5] + [("ann", 0, 2, "same"), ("ann", 0, 1, "none")]:
            self.assert_refused(desk, lambda: desk.say(value), BadSaying, saying=value)
        desk.take_back(3)
        self.assertEqual([desk.say(good), len(desk.numbers_now())], [16, 16])
        self.assert_refused(desk, lambda: desk.say(good), TooMuch, limit=16)
        desk.undo()
        self.assertEqual(desk.say(good), 17)
        self.assert_refused(desk, lambda: desk.say(good), TooMuch, limit=16)
        desk.undo()
        desk.undo()
        # The saying that was taken back is there again, so there are sixteen.
        self.assert_refused(desk, lambda: desk.say(good), TooMuch, limit=16)
        self.assertEqual(desk.numbers_now(), tuple(range(16)))


class TakeBack(DeskTest):
    def test_take_back(self):
        desk = desk_with(3, SAYINGS)
        self.assertIsNone(desk.take_back(1))
        self.assertEqual(state(desk), [4, (0, 2), [SAYINGS[0], SAYINGS[2]], 3, []])
        self.assertIsNone(desk.take_back(0))
        self.assertIsNone(desk.take_back(2))
        self.assertEqual(state(desk), [6, (), [], 3, []])

    def test_any_values(self):
        desk = desk_with(3, SAYINGS + SAYINGS)
        desk.take_back(1)
        desk.undo()
        desk.undo()
        desk.take_back(0)
        for value in many_values() + [
            0, 5, 6, 7, -1, -2, -5, 10 ** 30, True, False, "1", None, [1], (1,), {1: 1}, {}, [], 1.0, 2.0, desk, ("ann", 0, 1, "same"),
        ]:
            if type(value) is int and value in (1, 2, 3, 4):
                continue
            self.assert_refused(desk, lambda: desk.take_back(value), NoSaying, number=value)
            with self.assertRaises(NoSaying) as caught:
                desk.take_back(value)
            self.assertIs(caught.exception.number, value)
        self.assertEqual(desk.numbers_now(), (1, 2, 3, 4))

    def test_true_and_false_are_no_numbers(self):
        desk = desk_with(3, SAYINGS)
        self.assert_refused(desk, lambda: desk.take_back(True), NoSaying, number=True)
        self.assert_refused(desk, lambda: desk.take_back(False), NoSaying, number=False)
        self.assertEqual(desk.numbers_now(), (0, 1, 2))

    def test_not_twice(self):
        desk = desk_with(3, SAYINGS)
        desk.take_back(1)
        self.assert_refused(desk, lambda: desk.take_back(1), NoSaying, number=1)
        desk.undo()
        desk.take_back(1)
        self.assert_refused(desk, lambda: desk.take_back(1), NoSaying, number=1)

    def test_an_empty_desk(self):
        for number in (0, 1, -1):
            desk = Desk(8)
            self.assert_refused(desk, lambda: desk.take_back(number), NoSaying, number=number)


class Settle(DeskTest):
    def test_new_pairs(self):
        desk = desk_with(4, SAYINGS)
        self.assertIsNone(desk.settle(2, 3, "other"))
        self.assertIsNone(desk.settle(0, 1, "same"))
        self.assertEqual([desk.settled(), len(desk)], [[(2, 3, "other"), (0, 1, "same")], 5])

    def test_decided_so_already(self):
        desk = Desk(3)
        for pair in ((0, 1, "other"), (0, 1, "other"), (1, 2, "other"), (0, 2, "same"), (0, 2, "same")):
            self.assertIsNone(desk.settle(*pair))
        self.assertEqual(desk.settled(), [(0, 1, "other"), (0, 1, "other"), (1, 2, "other"), (0, 2, "same"), (0, 2, "same")])
        self.assertEqual(len(desk), 5)
        desk.undo()
        self.assertEqual([len(desk), len(desk.settled())], [4, 4])
        # What decided it first is still there.
        self.assert_refused(desk, lambda: desk.settle(0, 1, "same"), Contradicts, pair=(0, 1, "same"))

    def test_decided_otherwise(self):
        for word, other in (WORDS, WORDS[::-1]):
            desk = Desk(2)
            desk.settle(0, 1, word)
            self.assert_refused(desk, lambda: desk.settle(0, 1, other), Contradicts, pair=(0, 1, other))
            desk.undo()
            self.assertIsNone(desk.settle(0, 1, other))

    def test_several_pairs_together(self):
        for seed in range(40):
            chance = Random(seed)
            records = chance.randrange(2, 9)
            desk, plain = Desk(records), PlainDesk(records)
            for _ in range(25):
                first, second = sorted(chance.sample(range(records), 2))
                word = chance.choice(WORDS)
                if plain.left([(first, second, word)]):
                    self.assertIsNone(desk.settle(first, second, word))
                    plain.settle(first, second, word)
                else:
                    self.assert_refused(
                        desk, lambda: desk.settle(first, second, word), Contradicts, pair=(first, second, word))
                self.assert_alike(desk, plain)
            while plain.deeds:
                self.assertIsNone(desk.undo())
                plain.undo()
                self.assert_alike(desk, plain)

    def test_the_pair_is_a_tuple(self):
        desk = Desk(4)
        desk.settle(0, 1, "same")
        desk.settle(2, 3, "other")
        desk.settle(1, 2, "same")
        for pair in ((0, 3, "same"), (0, 2, "other"), (1, 3, "same")):
            self.assert_refused(desk, lambda: desk.settle(*pair), Contradicts, pair=pair)

    def test_the_sayings_decide_nothing(self):
        desk = desk_with(3, SAYINGS)
        self.assertIsNone(desk.settle(0, 1, "other"))
        self.assertEqual(desk.ask(0, 1, 2).word(), "other")
        self.assertEqual(desk.ask(0, 1, 1).word(), "none")


class Undo(DeskTest):
    def test_nothing_done(self):
        for records in (1, 8):
            desk = Desk(records)
            self.assert_refused(desk, desk.undo, NothingDone)
        desk = desk_with(3, SAYINGS)
        for many in (2, 1, 0):
            self.assertIsNone(desk.undo())
            self.assertEqual(len(desk), many)
        self.assert_refused(desk, desk.undo, NothingDone)

    def test_each_kind_of_deed(self):
        desk = Desk(3)
        states = [state(desk)]
        for deed in (lambda: desk.say(SAYINGS[0]), lambda: desk.settle(0, 1, "other"), lambda: desk.say(SAYINGS[1]),
                     lambda: desk.take_back(0), lambda: desk.settle(0, 2, "same"), lambda: desk.say(SAYINGS[2]),
                     lambda: desk.take_back(2), lambda: desk.settle(1, 2, "other"), lambda: desk.take_back(1)):
            deed()
            states.append(state(desk))
            self.assertEqual(len(desk), len(states) - 1)
        while len(states) > 1:
            self.assertEqual(state(desk), states.pop())
            self.assertIsNone(desk.undo())
        self.assertEqual(state(desk), states[0])
        self.assert_refused(desk, desk.undo, NothingDone)

    def test_a_saying_that_comes_back_stands_in_its_place(self):
        desk = desk_with(3, SAYINGS)
        desk.take_back(0)
        desk.take_back(1)
        self.assertEqual(desk.numbers_now(), (2,))
        desk.undo()
        self.assertEqual([desk.numbers_now(), desk.matter_now().sayings()], [(1, 2), SAYINGS[1:]])
        desk.undo()
        self.assertEqual([desk.numbers_now(), desk.matter_now().sayings()], [(0, 1, 2), SAYINGS])

    def test_no_question_is_a_deed(self):
        desk = desk_with(3, SAYINGS)
        answer = desk.ask(0, 1, 1)
        for call in (answer.word, answer.shown, answer.stands, desk.matter_now, desk.numbers_now, desk.settled, desk.fork):
            call()
            self.assertEqual(len(desk), 3)
        desk.undo()
        self.assertEqual(desk.numbers_now(), (0, 1))

    def test_long_runs(self):
        for seed in range(40):
            chance = Random(seed)
            records = chance.randrange(1, 9)
            desk, plain = Desk(records), PlainDesk(records)
            for _ in range(60):
                one, other = random_deed(chance, desk, plain)
                self.assertEqual(one, other)
                self.assert_alike(desk, plain)
            while plain.deeds:
                self.assertIsNone(desk.undo())
                plain.undo()
                self.assert_alike(desk, plain)
            self.assert_refused(desk, desk.undo, NothingDone)


class Now(DeskTest):
    def test_new_lists(self):
        desk = desk_with(3, SAYINGS)
        desk.settle(0, 1, "same")
        before = state(desk)
        one, two = desk.settled(), desk.settled()
        self.assertIsNot(one, two)
        one.append((0, 1, "other"))
        two.clear()
        sayings = desk.matter_now().sayings()
        self.assertIsNot(sayings, desk.matter_now().sayings())
        sayings.clear()
        self.assertIsNot(desk.matter_now(), desk.matter_now())
        self.assertEqual(state(desk), before)

    def test_the_matter_stays_as_it_was(self):
        desk = desk_with(3, SAYINGS)
        matter = desk.matter_now()
        desk.take_back(0)
        self.assertEqual([matter.sayings(), desk.matter_now().sayings()], [SAYINGS, SAYINGS[1:]])

    def test_a_new_desk(self):
        for records in range(1, 9):
            self.assertEqual(state(Desk(records)), [0, (), [], records, []])


class Numbers(DeskTest):
    def test_the_least_number_stays_or_changes_by_one(self):
        for seed in range(20):
            chance = Random(seed)
            records = chance.randrange(2, 7)
            desk, plain = Desk(records), PlainDesk(records)
            for _ in range(40):
                before = desk.numbers_now(), desk.settled(), self.leasts(desk)
                random_deed(chance, desk, plain)
                found = self.leasts(desk)
                self.assertEqual(found, [told_least(plain.matter(), plain.settled(), by) for by in WAYS_TO_COUNT])
                if desk.settled() == before[1]:
                    more = len(desk.numbers_now()) - len(before[0])
                    for one, other in zip(before[2], found):
                        self.assertIn(other - one, (0, more))

    def leasts(self, desk):
        return [least(desk.matter_now(), desk.settled(), by=by) for by in WAYS_TO_COUNT]

    def test_the_same_words_and_numbers_behind_every_history(self):
        for seed in range(20):
            chance = Random(seed)
            records = chance.randrange(2, 6)
            desk, plain = Desk(records), PlainDesk(records)
            for _ in range(50):
                random_deed(chance, desk, plain)
            new = desk_with(records, desk.matter_now().sayings())
            for pair in desk.settled():
                new.settle(*pair)
            turned = desk_with(records, desk.matter_now().sayings()[::-1])
            for pair in desk.settled()[::-1]:
                turned.settle(*pair)
            self.assertEqual([self.leasts(new), self.leasts(turned)], [self.leasts(desk)] * 2)
            for first, second in pairs(records):
                for by in WAYS_TO_COUNT:
                    for most in range(5):
                        word = desk.ask(first, second, most, by=by).word()
                        self.assertEqual(new.ask(first, second, most, by=by).word(), word)
                        self.assertEqual(turned.ask(first, second, most, by=by).word(), word)
                    self.assertEqual(gap(new.matter_now(), new.settled(), first, second, by=by),
                                     gap(desk.matter_now(), desk.settled(), first, second, by=by))

    def test_the_same_answers_behind_every_history(self):
        desk = desk_with(3, SAYINGS)
        desk.settle(1, 2, "same")
        answer = desk.ask(0, 1, 1)
        for deed in (lambda: desk.take_back(0), lambda: desk.say(("eve", 0, 2, "other")), lambda: desk.settle(0, 1, "same")):
            deed()
            desk.undo()
            self.assertEqual([desk.ask(0, 1, 1).word(), desk.ask(0, 1, 1).shown()], [answer.word(), answer.shown()])


class Calls(unittest.TestCase):
    def test_names(self):
        told = [(Desk.say, ["self", "saying"]), (Desk.take_back, ["self", "number"]), (Desk.undo, ["self"]),
                (Desk.settle, ["self", "first", "second", "word"]), (Desk.matter_now, ["self"]), (Desk.numbers_now, ["self"]),
                (Desk.settled, ["self"]), (Desk.ask, ["self", "first", "second", "most", "by"]), (Desk.fork, ["self"]),
                (Answer.word, ["self"]), (Answer.shown, ["self"]), (Answer.stands, ["self"])]
        for call, names in told:
            self.assertEqual(list(signature(call).parameters), names)
            self.assertEqual(call.__module__, "whoseword.desk")
        self.assertEqual(list(signature(Desk).parameters), ["records"])
        self.assertEqual([vars(module)[kind.__name__].__module__ for kind in (Desk, Answer)], ["whoseword.desk"] * 2)
        for kind, names in ((Desk, "say take_back settle undo matter_now numbers_now settled ask fork __len__"),
                            (Answer, "word shown stands")):
            self.assertLessEqual(set(names.split()), set(vars(kind)))
        parameter = signature(Desk.ask).parameters["by"]
        self.assertEqual([parameter.kind, parameter.default], [parameter.KEYWORD_ONLY, "sayings"])

    def test_by_name(self):
        desk = Desk(records=3)
        self.assertEqual([desk.say(saying=saying) for saying in SAYINGS], [0, 1, 2])
        desk.take_back(number=1)
        desk.settle(word="same", second=2, first=1)
        self.assertEqual(state(desk), [5, (0, 2), [SAYINGS[0], SAYINGS[2]], 3, [(1, 2, "same")]])
        one = desk.ask(by="tellers", most=1, second=2, first=0)
        other = desk.ask(0, 2, 1, by="tellers")
        self.assertEqual([one.word(), one.shown()], [other.word(), other.shown()])
        with self.assertRaises(TypeError):
            desk.ask(0, 2, 1, "tellers")

    def test_what_was_handed_in_is_not_changed(self):
        values = [("ann", 0, 1, "same"), ["ann", 0, [1], {"same": 1}], {"a": [1]}]
        before = deepcopy(values)
        desk = Desk(2)
        for value in values:
            try:
                desk.say(value)
            except BadSaying as caught:
                self.assertIs(caught.saying, value)
        self.assertEqual(values, before)
        handed = [1, [2]]
        with self.assertRaises(NoSaying):
            desk.take_back(handed)
        self.assertEqual(handed, [1, [2]])

    def test_two_desks_have_nothing_in_common(self):
        one, other = Desk(3), Desk(3)
        one.say(SAYINGS[0])
        one.settle(0, 1, "same")
        self.assertEqual([state(other), other.say(SAYINGS[1]), other.settle(0, 1, "other")], [[0, (), [], 3, []], 0, None])
        self.assertEqual(state(one), [2, (0,), SAYINGS[:1], 3, [(0, 1, "same")]])

    def test_it_uses_the_functions_of_the_other_modules_as_they_are(self):
        for seed in range(10):
            matter = random_matter(seed, 4, 8)
            desk = desk_with(4, matter.sayings())
            for first, second in pairs(4):
                for most in range(4):
                    answer = desk.ask(first, second, most)
                    self.assertEqual((answer.word(),) + answer.shown(), pair_word(matter, [], first, second, most))


if __name__ == "__main__":
    unittest.main()
