"""A desk on which sayings come and go, and answers that tell whether what shows them still stands (points 16, 17)."""

from whoseword.cases import is_tree
from whoseword.errors import BadSaying, Contradicts, NoSaying, NothingDone, TooMuch
from whoseword.matters import WORDS, Matter, is_an_integer, is_saying
from whoseword.pairs import pair_word
from whoseword.truths import contradiction, obeys, wrong_sayings, wrong_tellers

MOST_SAYINGS_THERE = 16
# No saying has this number, neither as its own one nor as its place in a matter.
NO_SAYING = -1


class Answer:
    """What a desk was asked, what it told, and what showed it."""

    def __init__(self, desk, asked, word, shown):
        self._desk = desk
        self._asked = asked
        self._word = word
        self._shown = shown

    def word(self):
        """Return the word of the two records when the desk was asked."""
        return self._word

    def shown(self):
        """Return the tuple (one, other) that showed it, with the sayings' own numbers."""
        return self._shown

    def stands(self):
        """Tell whether both parts of what is shown are right for the desk as it is now."""
        return all([self._is_right(word, told, proof) for word, (told, proof) in zip(WORDS, self._shown)])

    def _is_right(self, word, told, proof):
        """Tell whether it is right now that the two records can ("yes"), or cannot ("no"), have this word."""
        first, second, most, by = self._asked
        matter = self._desk.matter_now()
        assumed = self._desk.settled() + [(first, second, word)]
        if told == "yes":
            return obeys(proof, assumed) and _many_wrong(matter, proof, by) <= most
        excluded = contradiction(matter, assumed) is not None
        if excluded or proof is None:
            return excluded and proof is None
        places = {number: place for place, number in enumerate(self._desk.numbers_now())}
        return is_tree(matter, assumed, most, _renumbered(proof, places), by=by)


class Desk:
    """Records, the sayings that are there, the settled pairs, and the deeds that led to them."""

    def __init__(self, records):
        self._size = records
        self._given = 0
        self._there = {}
        self._pairs = []
        self._deeds = []

    def __len__(self):
        return len(self._deeds)

    def say(self, saying):
        """Let the saying, which may be any value, come; return its number."""
        if not is_saying(self._size, saying):
            raise BadSaying(saying)
        if len(self._there) >= MOST_SAYINGS_THERE:
            raise TooMuch(MOST_SAYINGS_THERE)
        number = self._given
        self._given = number + 1
        self._there[number] = saying
        self._deeds.append(("say", number, saying))
        return number

    def take_back(self, number):
        """Take the saying with this number, which may be any value, back."""
        if not is_an_integer(number) or number not in self._there:
            raise NoSaying(number)
        self._deeds.append(("take back", number, self._there[number]))
        del self._there[number]

    def settle(self, first, second, word):
        """Settle the pair: from now on it is assumed."""
        pair = (first, second, word)
        if contradiction(self.matter_now(), self._pairs + [pair]) is not None:
            raise Contradicts(pair)
        self._pairs.append(pair)
        self._deeds.append(("settle", None, None))

    def undo(self):
        """Undo the last deed that is not undone."""
        if not self._deeds:
            raise NothingDone()
        deed, number, saying = self._deeds.pop()
        if deed == "say":
            del self._there[number]
        elif deed == "take back":
            self._there[number] = saying
        else:
            self._pairs.pop()

    def matter_now(self):
        """Return the matter with the sayings that are there, in the order of their numbers."""
        return Matter(self._size, [self._there[number] for number in self.numbers_now()])

    def numbers_now(self):
        """Return the ascending tuple of the numbers of the sayings that are there."""
        # A saying that undo brought back stands last in the dict.
        return tuple(sorted(self._there))

    def settled(self):
        """Return a new list of the settled pairs, in the order in which they were settled."""
        return list(self._pairs)

    def ask(self, first, second, most, *, by="sayings"):
        """Return an answer with the word of the two records within most, with the settled pairs assumed."""
        word, one, other = pair_word(self.matter_now(), self._pairs, first, second, most, by=by)
        own = {place: number for place, number in enumerate(self.numbers_now())}
        shown = tuple([(told, proof if told == "yes" else _renumbered(proof, own)) for told, proof in (one, other)])
        return Answer(self, (first, second, most, by), word, shown)

    def fork(self):
        """Return a new desk that stands as this one does, with its deeds."""
        desk = Desk(self._size)
        desk._given = self._given
        desk._there = {number: self._there[number] for number in self._there}
        desk._pairs = list(self._pairs)
        desk._deeds = list(self._deeds)
        return desk


def _many_wrong(matter, truth, by):
    """Return how many sayings, or tellers, are wrong in the truth."""
    return len(wrong_sayings(matter, truth)) if by == "sayings" else len(wrong_tellers(matter, truth))


def _renumbered(tree, table):
    """Return a tree of cases, or None, with what the table has in place of the sayings' numbers, if anything."""
    if tree is None:
        return None
    if tree[0] == "lots":
        return "lots", tuple([tuple([table.get(number, NO_SAYING) for number in lot]) for lot in tree[1]])
    word, first, second, one, other = tree
    return word, first, second, _renumbered(one, table), _renumbered(other, table)
