"""Words whose letters take turns: the only ones that have to be tried, since a sort that is doubled changes nothing."""

from keepsort.sorting import other_kind


def squeezed(word):
    """Return the word without each letter that is equal to the letter before it."""
    return "".join([letter for index, letter in enumerate(word) if index == 0 or letter != word[index - 1]])


def in_turns(start, sort_once, kind):
    """Return the pairs of word and state for sorts in turns, the first one of this kind, while they change something.

    If the first sort changes nothing, words that begin with the other kind do
    the same with one letter less. If a later one changes nothing, the state is
    sorted for both kinds.
    """
    pairs = []
    word = kind
    state = start
    changed = sort_once(start, kind)
    while changed != state:
        pairs.append((word, changed))
        state = changed
        coming = other_kind(word[-1])
        changed = sort_once(state, coming)
        word += coming
    return pairs


def first_words(start, sort_once):
    """Return the pairs of word and state for each state that sorts lead to, with its first word, in their order.

    The function `sort_once` takes a state and a kind and returns the state after a
    sort of this kind.
    """
    pairs = [("", start)] + in_turns(start, sort_once, "C") + in_turns(start, sort_once, "R")
    found = {}
    for word, state in sorted(pairs, key=lambda pair: (len(pair[0]), pair[0])):
        if state not in found:
            found[state] = word
    return tuple([(word, state) for state, word in found.items()])
