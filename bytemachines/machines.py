"""A machine: one step for each state and byte, and for each state whether it takes.

The bytes are kept in spans, one behind another: those of a span lead to the same state from every state.
starts has the first byte of each span, rows has for each state where the spans lead, taking has 1 or 0 for each state.
"""

BYTES = 256


# Answers for each span how many bytes it has.
def span_widths(starts):
    ends = starts[1:] + [BYTES]
    return [end - start for start, end in zip(starts, ends)]


class Machine:
    def __init__(self, starts, rows, taking):
        self.starts = starts
        self.rows = rows
        self.taking = taking
        self.span_of = []
        for span, width in enumerate(span_widths(starts)):
            self.span_of.extend([span] * width)

    def size(self):
        return len(self.rows)

    def whole_row(self, state):
        row = self.rows[state]
        return [row[span] for span in self.span_of]

    # Answers 1 or 0.
    def takes(self, word):
        state = 0
        for byte in word:
            state = self.rows[state][self.span_of[byte]]
        return self.taking[state]
