"""Makes a drawing's machine: the sets of states that words lead to, those that take the same words merged."""

from bytemachines.machines import Machine
from bytemachines.merging import merged_blocks
from bytemachines.reached import reached_sets, span_starts


def taking_sets(sets, taking):
    takers = 0
    for state, takes in enumerate(taking):
        takers |= takes << state
    return [1 if (members & takers) != 0 else 0 for members in sets]


# The states handed in stand in the order in which they're first reached, state by state and byte by byte. A block is
# first reached where its first state is: so blocks in the order of their first states are numbered as a machine's are.
def merged_machine(starts, rows, taking):
    blocks = merged_blocks(rows, taking)
    numbers = {}
    firsts = []
    for state, block in enumerate(blocks):
        if block not in numbers:
            numbers[block] = len(firsts)
            firsts.append(state)
    merged = []
    for state in firsts:
        merged.append([numbers[blocks[target]] for target in rows[state]])
    return Machine(starts, merged, [taking[state] for state in firsts])


# Answers None if too many sets are reached.
def drawn_machine(taking, steps):
    starts = span_starts(steps)
    reached = reached_sets(len(taking), steps, starts)
    if reached.too_many():
        return None
    return merged_machine(starts, reached.rows, taking_sets(reached.sets, taking))
