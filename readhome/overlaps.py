"""Which ways, or values of one way, say the same text, told by the runs of the ways."""

from readhome.meeting import ALONE, can_meet
from readhome.nets import Net


class Overlaps:
    """What is known about runs: it is kept, as the same runs stand in many ways."""

    def __init__(self):
        # By a pair of runs whether they have a text in common.
        self.common = {}
        # By a run whether it has a text with two readings.
        self.twofold = {}

    def have_common(self, one, other):
        """Whether the two ways have a text in common."""
        if len(one.runs) != len(other.runs):
            return False
        for first, second in zip(one.runs, other.runs):
            if not self.is_common(first, second):
                return False
        return True

    def is_common(self, one, other):
        """Whether the two runs have a text in common."""
        # No run is without texts, as every way has values.
        if one == other:
            return True
        if not may_be_alike(one[0], other[0]):
            return False
        if (one, other) not in self.common:
            net = Net()
            first, second = net.add_way(*one), net.add_way(*other)
            self.common[(one, other)] = can_meet(net, first, second)
        return self.common[(one, other)]

    def is_clashing(self, way):
        """Whether two values of the way say the same text."""
        return way.hides_values() or any([self.is_twofold(run) for run in way.runs])

    def is_twofold(self, run):
        """Whether some text has two readings in the run."""
        if run not in self.twofold:
            net = Net()
            first = net.add_way(*run)
            self.twofold[run] = can_meet(net, first, ALONE)
        return self.twofold[run]

    def partners(self, ways, at):
        """The numbers, at or behind it, of the ways with a value that says what another of at does."""
        found = [at] if self.is_clashing(ways[at]) else []
        for behind in range(at + 1, len(ways)):
            if self.have_common(ways[at], ways[behind]):
                found.append(behind)
        return found

    def have_clash(self, ways):
        """Whether two values of these ways say the same text."""
        for at in range(len(ways)):
            if self.partners(ways, at):
                return True
        return False


def may_be_alike(one, other):
    """Whether the fixed texts at both ends allow that two runs say the same."""
    if not one[0].startswith(other[0]) and not other[0].startswith(one[0]):
        return False
    return one[-1].endswith(other[-1]) or other[-1].endswith(one[-1])
