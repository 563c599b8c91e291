"""Finds the first word, in order, that one of two machines takes and the other doesn't."""


# Numbers in groups, each at first in one of its own.
class Groups:
    def __init__(self, size):
        self.above = list(range(size))

    def leader_of(self, number):
        while self.above[number] != number:
            # Each way up is halved as it's gone, so that the ways stay short.
            self.above[number] = self.above[self.above[number]]
            number = self.above[number]
        return number

    # Answers whether the two were in different groups.
    def unite(self, one, other):
        first = self.leader_of(one)
        second = self.leader_of(other)
        self.above[second] = first
        return first != second


# Pairs of states, one of each machine, to which the same word leads. Behind the first pair each one is reached by a
# byte from one that stands before it.
class Pairs:
    def __init__(self):
        self.states = [(0, 0)]
        self.sources = [0]
        self.last_bytes = [0]

    def add(self, one, other, source, byte):
        self.states.append((one, other))
        self.sources.append(source)
        self.last_bytes.append(byte)

    def word_to_last(self):
        word = []
        place = len(self.states) - 1
        while place > 0:
            word.append(self.last_bytes[place])
            place = self.sources[place]
        return list(reversed(word))


def targets_by(machine, state, letters):
    row = machine.rows[state]
    return [row[machine.span_of[byte]] for byte in letters]


# Pairs come in the order of the first words that lead to them: the first of which just one state takes ends the walk.
# A pair is left out if its states are in one group already. A word that tells these two apart also tells apart the two
# of some pair that formed the group, and to that one an earlier word leads.
# Answers None if the machines take the same words.
def first_apart(one, other):
    if one.taking[0] != other.taking[0]:
        return []
    letters = sorted(set(one.starts + other.starts))
    pairs = Pairs()
    groups = Groups(one.size() + other.size())
    groups.unite(0, one.size())
    place = 0
    while place < len(pairs.states):
        states = pairs.states[place]
        ones = targets_by(one, states[0], letters)
        others = targets_by(other, states[1], letters)
        for byte, first, second in zip(letters, ones, others):
            if groups.unite(first, one.size() + second):
                pairs.add(first, second, place, byte)
                if one.taking[first] != other.taking[second]:
                    return pairs.word_to_last()
        place += 1
    return None
