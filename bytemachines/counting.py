"""Counts the words that a machine takes, by how many bytes they have.

The words of one byte more that are taken from a state are, for each byte, those taken from where it leads: so counts
for all states are found from those for one byte less. What was found is kept, and more is found only if it's asked for.
"""

from bytemachines.adding import state_sums, whole_part

# 2 ** 64: counts are told modulo this, and words told whose place in order is below it.
LIMIT = 18446744073709551616


class Counts:
    def __init__(self, machine):
        self.whole = whole_part(machine)
        # For each length the words taken from state 0, modulo LIMIT; of the greatest length those from every state.
        self.wrapped = [machine.taking[0]]
        self.last_wrapped = machine.taking
        # For each length the words taken from every state, LIMIT standing for itself and all that's more.
        self.capped = [machine.taking]

    def wrapped_count(self, length):
        while len(self.wrapped) <= length:
            self.last_wrapped = [count % LIMIT for count in state_sums(self.whole, self.last_wrapped)]
            self.wrapped.append(self.last_wrapped[0])
        return self.wrapped[length]

    # Answers a list, one count for each state.
    def capped_counts(self, length):
        while len(self.capped) <= length:
            self.capped.append([min(count, LIMIT) for count in state_sums(self.whole, self.capped[-1])])
        return self.capped[length]
