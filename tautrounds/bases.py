"""Words from which all words come: made shorter step by step, till each is one letter (Nielsen)."""

from tautrounds.errors import TooMany
from tautrounds.words import cut_free, gone_back


def _put_behind(one, other):
    """Two free words, one behind the other, free."""
    cut = 0
    while cut < min(len(one), len(other)) and one[len(one) - 1 - cut] == other[cut] ^ 1:
        cut += 1
    return one[:len(one) - cut] + other[cut:]


def _size(word):
    """What must grow less: the number of letters, then the first halves of the word and of the word gone back.

    Where no word can be made shorter the halves decide, so that at last no half of one word stands in two others.
    """
    half = (len(word) + 1) // 2
    halves = [word[:half], gone_back(word)[:half]]
    return len(word), min(halves), max(halves)


def _tries(many):
    """All ways to put one of many words beside another, as (which, other, turned, ahead)."""
    return [
        (which, other, turned, ahead)
        for which in range(many)
        for other in range(many)
        for turned in (False, True)
        for ahead in (False, True)
        if which != other
    ]


def _beside(words, entry):
    """The word that comes of putting one of the words beside another one."""
    which, other, turned, ahead = entry
    side = gone_back(words[other]) if turned else words[other]
    return _put_behind(side, words[which]) if ahead else _put_behind(words[which], side)


def _next_try(words, tries):
    """A way to put one word beside another that makes it less; None if there is none."""
    for entry in tries:
        word = words[entry[0]]
        shorter = _beside(words, entry)
        if len(shorter) < len(word) or (len(shorter) == len(word) and _size(shorter) < _size(word)):
            return entry
    return None


def undone_basis(words, most):
    """For each even letter, in sequence, the free word whose letters' words, one behind the other, make this letter.

    words tells a word for each even letter; from these all letters surely come. TooMany(most) if one of the words
    told would have more than most letters.
    """
    words = [cut_free(word) for word in words]
    told = [(2 * which,) for which in range(len(words))]
    tries = _tries(len(words))
    entry = _next_try(words, tries)
    while entry is not None:
        which = entry[0]
        words[which], told[which] = _beside(words, entry), _beside(told, entry)
        # What makes a word has at most so many letters for each of its letters.
        if len(told[which]) > most * len(words[which]):
            raise TooMany(most)
        entry = _next_try(words, tries)
    found = {}
    for word, maker in zip(words, told):
        found[word[0]] = maker
        found[word[0] ^ 1] = gone_back(maker)
    return [found[letter] for letter in range(0, len(found), 2)]
