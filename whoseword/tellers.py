"""Which tellers must be wrong, and on whose word a sure pair hangs (point 14)."""

from whoseword.matters import WORDS, Matter
from whoseword.pairs import fitting, pair_word
from whoseword.truths import wrong_tellers


def teller_word(matter, assumed, teller, most):
    """Return the word of the teller within most tellers, a truth in which it is wrong, and one in which it is not."""
    wrong = []
    right = []
    for truth in fitting(matter, assumed, most, by="tellers"):
        if teller in wrong_tellers(matter, truth):
            wrong.append(truth)
        else:
            right.append(truth)
    return _word(len(wrong), len(right)), _first_of(wrong), _first_of(right)


def blamed(matter, assumed):
    """Return the list of the least lots of tellers that are just the wrong ones in a truth that obeys."""
    # No truth has more wrong tellers than there are sayings, so all that obey fit within that number.
    truths = fitting(matter, assumed, len(matter), by="tellers")
    lots = sorted({wrong_tellers(matter, truth) for truth in truths})
    return [lot for lot in lots if not any([_is_less(other, lot) for other in lots])]


def hangs(matter, assumed, first, second, most, *, by="sayings"):
    """Return the ascending tuple of the tellers without whose sayings the sure pair has another word."""
    word = pair_word(matter, assumed, first, second, most, by=by)[0]
    if word not in WORDS:
        return ()
    found = []
    for teller in matter.tellers():
        left = _without(matter, teller)
        if pair_word(left, assumed, first, second, most, by=by)[0] != word:
            found.append(teller)
    return tuple(found)


def _word(wrong, right):
    """Return the word of a teller that is wrong in so many truths, and not wrong in so many."""
    if wrong and right:
        return "may"
    if wrong:
        return "must"
    return "cannot" if right else "none"


def _first_of(truths):
    return truths[0] if truths else None


def _is_less(lot, other):
    """Tell whether the one lot of tellers has fewer than the other one, all of which the other one has."""
    return len(lot) < len(other) and all([teller in other for teller in lot])


def _without(matter, teller):
    """Return the matter without the sayings of this teller."""
    return Matter(matter.records(), [saying for saying in matter.sayings() if saying[0] != teller])
