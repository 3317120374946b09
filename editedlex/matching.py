"""How far an expression matches, from every place of a text at once.

A set of places is kept as one whole number, in which bit p tells whether place p is in the set.
A node's reach is a list: for each place of the text, the end too, the set of the places where
those texts end that the node matches from there.
Since nodes share earlier nodes, an expression written out may be longer than any memory; with one
reach for each node, the work grows with the nodes and the text alone.
"""

from editedlex.expression import NOTHING, BYTE, SEQ, ALT


def longest_matches(nodes, text):
    """For each place of the text, the end too: how many bytes the longest match has, 0 without one."""
    reach = reach_of_expression(nodes, text)
    return [longest(ends, begin) for begin, ends in enumerate(reach)]


def longest(ends, begin):
    """How far the last of these ends is from begin; 0 if there is no end."""
    return max(ends.bit_length() - 1 - begin, 0)


def reach_of_expression(nodes, text):
    """The reach of the last node."""
    reaches = []
    for kind, lo, hi, a, b in nodes:
        if kind == NOTHING:
            reaches.append(reach_of_nothing(text))
        elif kind == BYTE:
            reaches.append(reach_of_byte(lo, hi, text))
        elif kind == SEQ:
            reaches.append(reach_of_sequence(reaches[a], reaches[b]))
        elif kind == ALT:
            reaches.append(reach_of_choice(reaches[a], reaches[b]))
        else:
            reaches.append(reach_of_many(reaches[a]))
    return reaches[-1]


def reach_of_nothing(text):
    return [1 << place for place in range(len(text) + 1)]


def reach_of_byte(lo, hi, text):
    reach = [1 << (place + 1) if lo <= byte and byte <= hi else 0 for place, byte in enumerate(text)]
    return reach + [0]


def reach_of_choice(one, other):
    return [ends | other_ends for ends, other_ends in zip(one, other)]


def reach_of_sequence(first, second):
    reach = [0] * len(first)
    known = {0: 0}
    for place in range(len(first) - 1, -1, -1):
        reach[place] = united(second, first[place], known)
    return reach


def reach_of_many(once):
    """Built from the end on: behind a first match that isn't empty, the reach is known already."""
    reach = [0] * len(once)
    known = {0: 0}
    for place in range(len(once) - 1, -1, -1):
        here = 1 << place
        # One more match of the empty text adds nothing, so it is left out.
        further = once[place] & ~here
        reach[place] = here | united(reach, further, known)
    return reach


def united(reach, places, known):
    """All that is reached from any of these places.

    known holds what earlier calls found with this reach, {0: 0} at first: the sets of neighbouring
    places often differ by their lowest place alone, and then the rest needn't be gone through again.
    """
    ends = 0
    left = places
    while left not in known:
        rest = left & (left - 1)
        lowest = (left ^ rest).bit_length() - 1
        ends = ends | reach[lowest]
        left = rest
    known[places] = ends | known[left]
    return known[places]
