"""Finds a word that a machine takes by its place in order: shorter ones first, then byte by byte."""

from bytemachines.machines import span_widths

MOST_BYTES = 256


# Of the words of this length that the machine takes, in order, answers the one with so many before it.
def word_of_length(machine, counts, length, before):
    widths = span_widths(machine.starts)
    word = []
    state = 0
    while len(word) < length:
        row = machine.rows[state]
        ways = counts.capped_counts(length - len(word) - 1)
        span = 0
        while before >= widths[span] * ways[row[span]]:
            before -= widths[span] * ways[row[span]]
            span += 1
        state = row[span]
        word.append(machine.starts[span] + before // ways[state])
        before = before % ways[state]
    return word


# Answers None if there's no such word, or if it's longer than MOST_BYTES.
def word_at(machine, counts, place):
    before = place
    for length in range(MOST_BYTES + 1):
        ways = counts.capped_counts(length)[0]
        if before < ways:
            return word_of_length(machine, counts, length, before)
        before -= ways
    return None
