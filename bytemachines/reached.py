"""The sets of a drawing's states that words lead to.

A set is a whole number whose bit s is 1 if state s is in the set. Bytes that no step tells apart form a span.
A lead is a list of sets, one for each span: what the span's bytes lead to.
"""

from bytemachines.machines import BYTES

MOST_SETS = 1024


# The sets stand in the order in which they are found; rows has, for each set gone through, the places it leads to.
class Reached:
    def __init__(self, first):
        self.sets = [first]
        self.places = {first: 0}
        self.rows = []

    def place_of(self, members):
        if members not in self.places:
            self.places[members] = len(self.sets)
            self.sets.append(members)
        return self.places[members]

    def too_many(self):
        return len(self.sets) > MOST_SETS


def span_starts(steps):
    starts = {0: True}
    for source, low, high, target in steps:
        starts[low] = True
        if high + 1 < BYTES:
            starts[high + 1] = True
    return sorted(starts)


def leads_of_states(size, steps, starts):
    # A span that would begin behind the last byte stands for the end of those that are there.
    spans = {BYTES: len(starts)}
    for span, start in enumerate(starts):
        spans[start] = span
    leads = [[0] * len(starts) for state in range(size)]
    for source, low, high, target in steps:
        for span in range(spans[low], spans[high + 1]):
            leads[source][span] |= 1 << target
    return leads


def lead_of_set(members, leads, width):
    joined = [0] * width
    for state, lead in enumerate(leads):
        if ((members >> state) & 1) == 1:
            joined = [one | other for one, other in zip(joined, lead)]
    return joined


# If there are too many sets it stops as soon as that is known, and tells only those found so far.
def reached_sets(size, steps, starts):
    leads = leads_of_states(size, steps, starts)
    # The empty word leads to state 0 alone, and in a drawing without states to the empty set.
    reached = Reached(1 if size > 0 else 0)
    while len(reached.rows) < len(reached.sets) and not reached.too_many():
        lead = lead_of_set(reached.sets[len(reached.rows)], leads, len(starts))
        reached.rows.append([reached.place_of(members) for members in lead])
    return reached
