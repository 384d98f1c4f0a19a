"""Texts that two readings share: whether there is one, and the shortest."""

from heapq import heapify, heappop, heappush

# In place of the second of two readings that have not parted yet.
ALONE = -1


def can_meet(net, one, other):
    """Whether some text leads this pair of places, as first_meeting takes it, to ends of ways."""
    open_pairs = [(one, other)]
    seen = set()
    seen.add((one, other))
    while open_pairs:
        one, other = open_pairs.pop()
        if one in net.last_places and other in net.last_places:
            return True
        for _, first, second in steps_from(net, one, other):
            if (first, second) not in seen:
                seen.add((first, second))
                open_pairs.append((first, second))
    return False


def first_meeting(net, pairs):
    """The shortest text that leads both places of one of the pairs to the ends of their ways, of
    equally long ones the first; None if there is none.

    A pair of a place and ALONE is of two readings that go the same way together, but have to part
    before its end. In a pair of two places the first is not behind the second.
    """
    queue = [(signs_needed(net, one, other), "", one, other) for one, other in pairs]
    heapify(queue)
    seen = set()
    while queue:
        # Texts that lead to one pair go on from it alike, so only the best of them counts. It comes
        # first: by the least length that it may have at the end, then in the order of strings.
        _, text, one, other = heappop(queue)
        if (one, other) in seen:
            continue
        seen.add((one, other))
        if one in net.last_places and other in net.last_places:
            return text
        for part, first, second in steps_from(net, one, other):
            if (first, second) not in seen:
                longer = text + part
                length = len(longer) + signs_needed(net, first, second)
                heappush(queue, (length, longer, first, second))
    return None


def signs_needed(net, one, other):
    """A number of signs without which the pair of places is led to no end."""
    return net.needs[one] if other == ALONE else max(net.needs[one], net.needs[other])


def steps_from(net, one, other):
    """Triples of signs and of the pair of places to which they lead from this pair."""
    if other == ALONE:
        return steps_alone(net, one)
    if net.rests[one] and net.rests[other]:
        return steps_fixed(net, one, other)
    found = {}
    for sign in net.next_signs(one, other):
        for first in net.next_places(one, sign):
            for second in net.next_places(other, sign):
                pair = (min(first, second), max(first, second))
                if pair not in found:
                    found[pair] = sign
    return [(sign, first, second) for (first, second), sign in found.items()]


def steps_fixed(net, one, other):
    """The step of a pair of places before fixed signs, to the end of the shorter of them."""
    size = min(len(net.rests[one]), len(net.rests[other]))
    part = net.rests[one][:size]
    if net.rests[other].startswith(part):
        return [(part, one + size, other + size)]
    return []


def steps_alone(net, place):
    """The steps of two readings that have gone over the same places up to this one."""
    rest = net.rests[place]
    if rest:
        return [(rest, place + len(rest), ALONE)]
    found = {}
    for sign, places in net.moves[place].items():
        pairs = [(first, ALONE) for first in places]
        # The place within the slot stands before that behind it.
        if len(places) > 1:
            pairs.append(places)
        for pair in pairs:
            if pair not in found:
                found[pair] = sign
    return [(sign, first, second) for (first, second), sign in found.items()]
