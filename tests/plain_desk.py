"""A desk as the document tells of it: it keeps its deeds alone, and goes through all of them for each question."""

from tests.reference import many_wrong, told_tree
from tests.values import WORDS, holds, truths
from whoseword.matters import Matter


class PlainDesk:
    def __init__(self, records):
        self.records = records
        self.deeds = []
        self.given = 0

    def there(self):
        """The sayings that are there, by their numbers."""
        found = {}
        for deed in self.deeds:
            if deed[0] == "say":
                found[deed[1]] = deed[2]
            elif deed[0] == "take_back":
                del found[deed[1]]
        return {number: found[number] for number in sorted(found)}

    def settled(self):
        return [deed[1:] for deed in self.deeds if deed[0] == "settle"]

    def matter(self):
        return Matter(self.records, list(self.there().values()))

    def left(self, more=()):
        """The truths that obey the settled pairs and some more."""
        pairs = self.settled() + list(more)
        return [truth for truth in truths(self.records) if all(holds(self.records, truth, pair) for pair in pairs)]

    def say(self, saying):
        self.deeds.append(("say", self.given, saying))
        self.given += 1
        return self.given - 1

    def take_back(self, number):
        self.deeds.append(("take_back", number))

    def settle(self, first, second, word):
        self.deeds.append(("settle", first, second, word))

    def undo(self):
        self.deeds.pop()

    def fork(self):
        desk = PlainDesk(self.records)
        desk.deeds = list(self.deeds)
        desk.given = self.given
        return desk

    def word(self, first, second, most, by):
        matter = self.matter()
        fits = [truth for truth in self.left() if many_wrong(matter, truth, by) <= most]
        told = {word for truth in fits for word in WORDS if holds(self.records, truth, (first, second, word))}
        return "none" if not told else "open" if len(told) == 2 else told.pop()

    def is_right(self, pair, most, by, told, proof):
        """Whether what is shown for this pair is right now, told by all truths."""
        matter = self.matter()
        left = self.left([pair])
        if told == "yes":
            return proof in left and many_wrong(matter, proof, by) <= most
        if proof is None or not left:
            return proof is None and not left
        placed = with_places(proof, list(self.there()))
        return placed is not None and told_tree(matter, left, most, placed, by)

    def stands(self, first, second, most, by, shown):
        return all(self.is_right((first, second, word), most, by, *result) for word, result in zip(WORDS, shown))

    def tells_right(self, first, second, most, by, word, shown):
        """Whether an answer that is given just now is right."""
        can = {(True, True): "open", (True, False): "same", (False, True): "other", (False, False): "none"}
        return (
            self.stands(first, second, most, by, shown)
            and word == self.word(first, second, most, by)
            and word == can[shown[0][0] == "yes", shown[1][0] == "yes"]
        )


def with_places(tree, numbers):
    """The tree with places in the list in place of the sayings' own numbers, None if one of them is not there."""
    if tree[0] == "lots":
        if any(number not in numbers for lot in tree[1] for number in lot):
            return None
        return ("lots", tuple(tuple(numbers.index(number) for number in lot) for lot in tree[1]))
    parts = [with_places(part, numbers) for part in tree[3:]]
    return None if None in parts else tree[:3] + tuple(parts)


def lots_of(tree):
    """All numbers in the lots of a tree."""
    if tree[0] == "lots":
        return {number for lot in tree[1] for number in lot}
    return lots_of(tree[3]) | lots_of(tree[4])
