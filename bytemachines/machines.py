"""A machine: one step for each state and byte, and for each state whether it takes.

The bytes are kept in spans, one behind another: those of a span lead to the same state from every state.
starts has the first byte of each span, rows has for each state where the spans lead, taking has 1 or 0 for each state.
"""

BYTES = 256


class Machine:
    def __init__(self, starts, rows, taking):
        self.starts = starts
        self.rows = rows
        self.taking = taking

    def size(self):
        return len(self.rows)

    def whole_row(self, state):
        ends = self.starts[1:] + [BYTES]
        whole = []
        for start, end, target in zip(self.starts, ends, self.rows[state]):
            whole.extend([target] * (end - start))
        return whole
