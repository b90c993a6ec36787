"""Answers of a desk, whether they stand, and forks of desks: points 2, 3, 16 and 17, and the interface, stage 10."""

import unittest
from random import Random

from tests.plain_desk import PlainDesk, lots_of
from tests.reference import WAYS_TO_COUNT
from tests.test_desk import SAYINGS, desk_with, random_deed, state
from tests.values import WORDS, pairs
from whoseword.cases import is_tree
from whoseword.desk import Answer, Desk
from whoseword.errors import Contradicts, NothingDone
from whoseword.pairs import pair_word
from whoseword.truths import obeys, word_in


def random_question(chance, records):
    first, second = sorted(chance.sample(range(records), 2))
    return (first, second, chance.choice((0, 0, 1, 1, 2, 3, 5))), chance.choice(WAYS_TO_COUNT)


def trees_of(answer):
    return [proof for told, proof in answer.shown() if told == "no" and proof is not None]


class Ask(unittest.TestCase):
    def test_the_word_and_what_shows_it(self):
        words = set()
        for seed in range(60):
            chance = Random(seed)
            records = chance.randrange(2, 7)
            desk, plain = Desk(records), PlainDesk(records)
            for _ in range(30):
                random_deed(chance, desk, plain)
                before = state(desk)
                (first, second, most), by = random_question(chance, records)
                answer = desk.ask(first, second, most, by=by)
                self.assertIs(type(answer), Answer)
                self.assertEqual(state(desk), before)
                word, shown = answer.word(), answer.shown()
                self.assertEqual([type(shown), len(shown)], [tuple, 2])
                self.assertTrue(plain.tells_right(first, second, most, by, word, shown))
                self.assertIs(answer.stands(), True)
                words.add(word)
        self.assertEqual(words, {"same", "other", "open", "none"})

    def test_eight_records_and_sixteen_sayings(self):
        for seed in range(3):
            chance = Random(seed)
            desk, plain = Desk(8), PlainDesk(8)
            for _ in range(16):
                first, second = sorted(chance.sample(range(8), 2))
                saying = (chance.choice(("ann", "bob", "eve")), first, second, chance.choice(WORDS))
                self.assertEqual(desk.say(saying), plain.say(saying))
            for most, by in ((0, "sayings"), (2, "sayings"), (4, "sayings"), (1, "tellers"), (16, "sayings")):
                answer = desk.ask(1, 6, most, by=by)
                self.assertTrue(plain.tells_right(1, 6, most, by, answer.word(), answer.shown()))
                self.assertIs(answer.stands(), True)

    def test_as_pair_word_tells_it(self):
        for seed in range(20):
            chance = Random(seed)
            records = chance.randrange(2, 6)
            desk, plain = Desk(records), PlainDesk(records)
            for _ in range(30):
                random_deed(chance, desk, plain)
            for first, second in pairs(records):
                for by in WAYS_TO_COUNT:
                    for most in range(3):
                        answer = desk.ask(first, second, most, by=by)
                        told = pair_word(desk.matter_now(), desk.settled(), first, second, most, by=by)
                        self.assertEqual(answer.word(), told[0])
                        self.assertEqual([result[0] for result in answer.shown()], [result[0] for result in told[1:]])

    def test_the_sayings_own_numbers(self):
        desk = desk_with(2, [("ann", 0, 1, "same")] * 3 + [("bob", 0, 1, "other"), ("eve", 0, 1, "same")])
        for number in (0, 2, 3):
            desk.take_back(number)
        self.assertEqual(desk.numbers_now(), (1, 4))
        answer = desk.ask(0, 1, 1)
        self.assertEqual([answer.word(), answer.shown()], ["same", (("yes", ()), ("no", ("lots", ((1,), (4,)))))])
        desk.say(("dan", 0, 1, "same"))
        self.assertEqual({frozenset(lots_of(tree)) <= {1, 4, 5} for tree in trees_of(desk.ask(0, 1, 1))}, {True})

    def test_the_sayings_own_numbers_in_cases(self):
        # An odd ring, of which no saying has its place as its number.
        desk = desk_with(3, [("dan", 1, 2, "same")] * 4 + [("ann", 0, 1, "same"), ("bob", 1, 2, "other"), ("ann", 0, 2, "same")])
        for number in range(4):
            desk.take_back(number)
        answer = desk.ask(0, 1, 0)
        self.assertEqual([answer.word(), answer.stands()], ["none", True])
        for tree in trees_of(answer):
            self.assertLessEqual(lots_of(tree), {4, 5, 6})
            self.assertTrue(lots_of(tree))

    def test_what_the_settled_pairs_exclude(self):
        desk = desk_with(3, SAYINGS)
        desk.settle(0, 1, "other")
        desk.settle(1, 2, "other")
        for most in (0, 1, 2, 3):
            for by in WAYS_TO_COUNT:
                answer = desk.ask(0, 2, most, by=by)
                self.assertEqual(answer.shown()[1], ("no", None))
                self.assertNotEqual(answer.shown()[0], ("no", None))
                self.assertEqual(desk.ask(0, 1, most, by=by).shown()[0], ("no", None))
                self.assertIs(answer.stands(), True)

    def test_both_ways_to_count(self):
        desk = desk_with(2, [("ann", 0, 1, "same"), ("ann", 0, 1, "same"), ("bob", 0, 1, "other")])
        self.assertEqual([desk.ask(0, 1, 1).word(), desk.ask(0, 1, 1, by="sayings").word()], ["same", "same"])
        self.assertEqual(desk.ask(0, 1, 1, by="tellers").word(), "open")
        answer = desk.ask(0, 1, 1, by="tellers")
        # Two wrong sayings of one teller go on to count once.
        desk.say(("ann", 0, 1, "same"))
        self.assertEqual([answer.stands(), desk.ask(0, 1, 2).word()], [True, "same"])

    def test_it_tells_what_held_when_the_desk_was_asked(self):
        """Also of an answer that is looked at only later."""
        for seed in range(40):
            chance = Random(seed)
            records = chance.randrange(2, 6)
            desk, plain = Desk(records), PlainDesk(records)
            kept = []
            for _ in range(40):
                random_deed(chance, desk, plain)
                (first, second, most), by = random_question(chance, records)
                twin = desk.ask(first, second, most, by=by)
                kept.append((desk.ask(first, second, most, by=by), twin.word(), twin.shown()))
            while len(desk):
                desk.undo()
            for answer, word, shown in kept:
                self.assertEqual([answer.word(), answer.shown()], [word, shown])
                answer.stands()
                self.assertEqual([answer.word(), answer.shown()], [word, shown])

    def test_all_is_empty(self):
        answer = Desk(2).ask(0, 1, 0)
        self.assertEqual([answer.word(), answer.shown(), answer.stands()], ["open", (("yes", ()), ("yes", (1,))), True])


class Stands(unittest.TestCase):
    def assert_stands(self, answer, plain, question, by):
        good = plain.stands(*question, by, answer.shown())
        self.assertIs(answer.stands(), good)
        return good

    def test_long_runs(self):
        told = []
        for seed in range(120):
            chance = Random(seed)
            records = chance.choice((2, 3, 3, 4, 4, 5))
            desk, plain = Desk(records), PlainDesk(records)
            kept = []
            for step in range(60):
                random_deed(chance, desk, plain)
                if step % 4 == 0:
                    question, by = random_question(chance, records)
                    kept.append((desk.ask(*question, by=by), question, by))
                for answer, question, by in chance.sample(kept, min(3, len(kept))):
                    told.append(self.assert_stands(answer, plain, question, by))
            while plain.deeds:
                desk.undo()
                plain.undo()
                for answer, question, by in kept[-3:]:
                    told.append(self.assert_stands(answer, plain, question, by))
        self.assertGreater(min(told.count(True), told.count(False)), 2000)

    def test_many_records(self):
        for seed in range(6):
            chance = Random(seed)
            desk, plain = Desk(7), PlainDesk(7)
            kept = []
            for step in range(50):
                random_deed(chance, desk, plain)
                if step % 5 == 0:
                    question, by = random_question(chance, 7)
                    kept.append((desk.ask(*question, by=by), question, by))
                for answer, question, by in kept[-2:]:
                    self.assert_stands(answer, plain, question, by)

    def test_a_tree_stands_when_a_saying_comes(self):
        desk = desk_with(2, [("ann", 0, 1, "same"), ("bob", 0, 1, "same")])
        answer = desk.ask(0, 1, 1)
        self.assertEqual(answer.shown(), (("yes", ()), ("no", ("lots", ((0,), (1,))))))
        for word in ("same", "other"):
            desk.say(("eve", 0, 1, word))
            self.assertIs(answer.stands(), True)
        # Now the truth does not fit any longer.
        desk.say(("eve", 0, 1, "other"))
        self.assertIs(answer.stands(), False)
        desk.take_back(3)
        self.assertIs(answer.stands(), True)

    def test_a_tree_falls_when_a_saying_of_a_lot_goes(self):
        desk = desk_with(2, [("ann", 0, 1, "same")] * 4)
        answer = desk.ask(0, 1, 1)
        used = sorted(lots_of(answer.shown()[1][1]))
        for number in range(4):
            desk.take_back(number)
            # The other sayings would do, but the tree names just these.
            self.assertIs(answer.stands(), number not in used)
            self.assertEqual(desk.ask(0, 1, 1).word(), "same")
            desk.undo()
            self.assertIs(answer.stands(), True)

    def test_an_equal_saying_is_another_one(self):
        desk = desk_with(2, [("ann", 0, 1, "same")])
        answer = desk.ask(0, 1, 0)
        desk.take_back(0)
        self.assertEqual([answer.stands(), desk.say(("ann", 0, 1, "same")), answer.stands()], [False, 1, False])
        self.assertEqual(answer.shown()[1], ("no", ("lots", ((0,),))))
        desk.undo()
        desk.undo()
        self.assertIs(answer.stands(), True)

    def test_a_saying_that_comes_may_be_undone(self):
        desk = desk_with(2, [("ann", 0, 1, "same")])
        answer = desk.ask(0, 1, 0)
        desk.undo()
        self.assertIs(answer.stands(), False)
        desk.say(("ann", 0, 1, "same"))
        self.assertIs(answer.stands(), False)

    def test_places_that_change_mean_nothing(self):
        desk = desk_with(3, [("dan", 1, 2, "same"), ("ann", 0, 1, "same"), ("bob", 0, 1, "same"), ("dan", 1, 2, "other")])
        answer = desk.ask(0, 1, 1)
        self.assertEqual(lots_of(answer.shown()[1][1]), {1, 2})
        desk.take_back(0)
        self.assertIs(answer.stands(), True)
        desk.take_back(3)
        self.assertIs(answer.stands(), True)
        desk.take_back(1)
        self.assertIs(answer.stands(), False)

    def test_a_truth_stands_as_long_as_it_fits(self):
        desk = Desk(3)
        answer = desk.ask(0, 1, 0)
        self.assertEqual([told for told, _ in answer.shown()], ["yes", "yes"])
        desk.say(("ann", 1, 2, "same"))
        self.assertIs(answer.stands(), all(word_in(truth, 1, 2) == "same" for _, truth in answer.shown()))
        desk.say(("ann", 0, 1, "other"))
        self.assertIs(answer.stands(), False)
        desk.undo()
        desk.undo()
        self.assertIs(answer.stands(), True)

    def test_settled_pairs_let_a_truth_fall(self):
        desk = Desk(3)
        answer = desk.ask(0, 1, 0)
        word = "other" if 2 in answer.shown()[0][1] else "same"
        desk.settle(0, 2, WORDS[1 - WORDS.index(word)])
        self.assertIs(answer.stands(), False)
        desk.undo()
        self.assertIs(answer.stands(), True)
        # One of the two words is excluded now, so the truth that has it does not obey.
        desk.settle(0, 1, "same")
        self.assertIs(answer.stands(), False)

    def test_none_stands_as_long_as_it_is_excluded(self):
        desk = desk_with(3, [])
        desk.settle(0, 1, "same")
        desk.settle(1, 2, "other")
        answer = desk.ask(0, 2, 0)
        self.assertEqual([answer.word(), answer.shown()[0]], ["other", ("no", None)])
        desk.settle(0, 2, "other")
        desk.say(("ann", 0, 1, "same"))
        self.assertIs(answer.stands(), True)
        for _ in range(2):
            desk.undo()
            self.assertIs(answer.stands(), True)
        desk.undo()
        self.assertIs(answer.stands(), False)
        desk.settle(0, 2, "other")
        # Now it is excluded by another pair.
        self.assertIs(answer.stands(), True)
        desk.undo()
        desk.say(("ann", 0, 2, "other"))
        # No truth fits, but the settled pairs do not exclude it.
        self.assertEqual([desk.ask(0, 2, 0).word(), answer.stands()], ["other", False])

    def test_a_tree_falls_when_the_settled_pairs_exclude_what_is_assumed(self):
        desk = desk_with(3, [("ann", 0, 1, "same"), ("bob", 0, 1, "same")])
        answer = desk.ask(0, 1, 1)
        self.assertEqual([answer.word(), answer.shown()[1][0], answer.shown()[1][1] is None], ["same", "no", False])
        desk.settle(0, 2, "same")
        self.assertIs(answer.stands(), True)
        desk.settle(1, 2, "same")
        self.assertEqual([desk.ask(0, 1, 1).shown()[1], answer.stands()], [("no", None), False])
        desk.undo()
        self.assertIs(answer.stands(), True)
        desk.settle(0, 1, "same")
        self.assertIs(answer.stands(), False)

    def test_a_tree_falls_when_a_case_is_decided(self):
        found = []
        for seed in range(60):
            chance = Random(seed)
            desk = desk_with(4, [
                (chance.choice(("ann", "bob", "eve")), *sorted(chance.sample(range(4), 2)), chance.choice(WORDS))
                for _ in range(10)])
            for most in range(3):
                answer = desk.ask(0, 1, most)
                for word, (told, proof) in zip(WORDS, answer.shown()):
                    if told == "no" and proof[0] == "case":
                        first, second = proof[1:3]
                        for settled in WORDS:
                            desk.settle(first, second, settled)
                            self.assertIs(answer.stands(), False)
                            self.assertIs(is_tree(desk.matter_now(), desk.settled() + [(0, 1, word)], most, proof), False)
                            desk.undo()
                            self.assertIs(answer.stands(), True)
                            found.append(settled)
        self.assertGreater(len(found), 40)

    def test_undoing_a_settled_pair_lets_a_lot_fall(self):
        desk = desk_with(3, [("ann", 0, 1, "same"), ("bob", 0, 2, "same")])
        desk.settle(1, 2, "same")
        answer = desk.ask(0, 1, 1)
        self.assertEqual([answer.word(), answer.shown()[1]], ["same", ("no", ("lots", ((0,), (1,))))])
        desk.take_back(0)
        desk.undo()
        desk.undo()
        # Without the pair, saying 1 may be right.
        self.assertEqual([answer.stands(), desk.ask(0, 1, 1).word()], [False, "open"])
        desk.settle(1, 2, "same")
        self.assertIs(answer.stands(), True)

    def test_a_tree_under_more_settled_pairs(self):
        """Odd lots stay odd, so the answer stands with the truth beside them."""
        for one in WORDS:
            for two in WORDS:
                desk = desk_with(4, [("ann", 0, 1, "same"), ("bob", 0, 1, "same")])
                answer = desk.ask(0, 1, 1)
                self.assertEqual(answer.shown()[1], ("no", ("lots", ((0,), (1,)))))
                desk.settle(2, 3, one)
                desk.settle(1, 3, two)
                self.assertIs(answer.stands(), obeys(answer.shown()[0][1], desk.settled()))
                self.assertEqual(desk.ask(0, 1, 1).word(), "same")

    def test_both_are_right(self):
        """One wrong part is enough to fall, whichever it is."""
        desk = desk_with(2, [("ann", 0, 1, "same"), ("bob", 0, 1, "same")])
        answer = desk.ask(0, 1, 1)
        desk.take_back(0)
        self.assertIs(answer.stands(), False)
        desk.undo()
        for _ in range(2):
            desk.say(("eve", 0, 1, "other"))
        self.assertIs(answer.stands(), False)
        turned = desk_with(2, [("ann", 0, 1, "other"), ("bob", 0, 1, "other")])
        answer = turned.ask(0, 1, 1)
        self.assertEqual([answer.word(), answer.shown()[0][0], answer.stands()], ["other", "no", True])
        turned.take_back(1)
        self.assertIs(answer.stands(), False)
        turned.undo()
        for _ in range(2):
            turned.say(("eve", 0, 1, "same"))
        self.assertIs(answer.stands(), False)

    def test_the_number_and_the_way_to_count_stay(self):
        desk = desk_with(2, [("ann", 0, 1, "same"), ("ann", 0, 1, "other")])
        answers = [desk.ask(0, 1, most, by=by) for most in (0, 1, 2) for by in WAYS_TO_COUNT]
        desk.say(("ann", 0, 1, "same"))
        self.assertEqual([answer.stands() for answer in answers], [True, True, False, True, True, True])


class Fork(unittest.TestCase):
    def test_it_tells_the_same(self):
        for seed in range(20):
            chance = Random(seed)
            records = chance.randrange(1, 7)
            desk, plain = Desk(records), PlainDesk(records)
            for _ in range(30):
                random_deed(chance, desk, plain)
            fork = desk.fork()
            self.assertIs(type(fork), Desk)
            self.assertIsNot(fork, desk)
            self.assertEqual(state(fork), state(desk))
            for first, second in pairs(records)[:5]:
                one, other = desk.ask(first, second, 1), fork.ask(first, second, 1)
                self.assertEqual([one.word(), one.shown()], [other.word(), other.shown()])
            while len(desk):
                desk.undo()
                fork.undo()
                self.assertEqual(state(fork), state(desk))
            for each in (desk, fork):
                with self.assertRaises(NothingDone):
                    each.undo()

    def test_the_next_number(self):
        desk = desk_with(3, SAYINGS)
        desk.take_back(2)
        desk.undo()
        desk.undo()
        fork = desk.fork()
        self.assertEqual([fork.say(SAYINGS[0]), desk.say(SAYINGS[1]), desk.say(SAYINGS[1]), fork.say(SAYINGS[2])], [3, 3, 4, 4])
        self.assertEqual([desk.matter_now().sayings()[2:], fork.matter_now().sayings()[2:]],
                         [[SAYINGS[1]] * 2, [SAYINGS[0], SAYINGS[2]]])

    def test_calls_of_the_one_do_not_change_the_other_one(self):
        for seed in range(40):
            chance = Random(seed)
            records = chance.randrange(2, 6)
            both = [(Desk(records), PlainDesk(records))]
            for _ in range(20):
                random_deed(chance, *both[0])
            for step in range(80):
                at = chance.randrange(len(both))
                desk, plain = both[at]
                # Forks of forks, too.
                if step in (0, 5, 20):
                    both.append((desk.fork(), plain.fork()))
                one, other = random_deed(chance, desk, plain)
                self.assertEqual(one, other)
                self.assert_all(both)
            while any(plain.deeds for _, plain in both):
                desk, plain = chance.choice([pair for pair in both if pair[1].deeds])
                desk.undo()
                plain.undo()
                self.assert_all(both)
            for desk, _ in both:
                with self.assertRaises(NothingDone):
                    desk.undo()

    def assert_all(self, both):
        for desk, plain in both:
            there = plain.there()
            self.assertEqual(
                state(desk), [len(plain.deeds), tuple(there), list(there.values()), plain.records, plain.settled()])

    def test_answers_stay_with_the_desk_that_gave_them(self):
        desk = desk_with(2, [("ann", 0, 1, "same"), ("bob", 0, 1, "same")])
        answer = desk.ask(0, 1, 1)
        fork = desk.fork()
        other = fork.ask(0, 1, 1)
        fork.take_back(0)
        self.assertEqual([answer.stands(), other.stands()], [True, False])
        fork.undo()
        desk.undo()
        self.assertEqual([answer.stands(), other.stands()], [False, True])
        fork.undo()
        fork.say(("bob", 0, 1, "same"))
        self.assertEqual([answer.stands(), other.stands()], [False, False])

    def test_answers_of_forks_in_long_runs(self):
        for seed in range(20):
            chance = Random(seed)
            records = chance.randrange(2, 5)
            both = [(Desk(records), PlainDesk(records))]
            kept = []
            for step in range(80):
                desk, plain = chance.choice(both)
                random_deed(chance, desk, plain)
                if step in (15, 30, 45):
                    both.append((desk.fork(), plain.fork()))
                if step % 5 == 0:
                    question, by = random_question(chance, records)
                    kept.append((desk.ask(*question, by=by), plain, question, by))
                for answer, asked, question, by in chance.sample(kept, min(3, len(kept))):
                    self.assertIs(answer.stands(), asked.stands(*question, by, answer.shown()))

    def test_settled_pairs(self):
        desk = desk_with(3, SAYINGS)
        desk.settle(0, 1, "other")
        fork = desk.fork()
        fork.settle(1, 2, "other")
        self.assertEqual([desk.settled(), fork.settled()], [[(0, 1, "other")], [(0, 1, "other"), (1, 2, "other")]])
        desk.settle(0, 2, "other")
        with self.assertRaises(Contradicts):
            fork.settle(0, 2, "other")
        self.assertEqual([desk.settled()[1:], fork.settled()[1:]], [[(0, 2, "other")], [(1, 2, "other")]])


if __name__ == "__main__":
    unittest.main()
