"""Adds up, for every state of a machine, a number of each state that its 256 bytes lead to.

The bytes are parted by letters, and parts joined two by two, until one part has all bytes. Within a part, states are of
one kind if its bytes lead them to the same states: so what many states have in common is added up only once.
"""

from bytemachines.machines import span_widths


# Bytes that lead to the same state from every state: column has, for each state, where they lead to.
class Letter:
    def __init__(self, column, width):
        self.width = width
        self.targets = sorted(set(column))
        places = {}
        for place, target in enumerate(self.targets):
            places[target] = place
        self.kind_of = [places[target] for target in column]

    # Answers for each kind the sum over this part's bytes.
    def sums(self, numbers):
        return [numbers[target] * self.width for target in self.targets]


# Two parts as one. A kind here is a pair of theirs.
class Joint:
    def __init__(self, first, second):
        self.first = first
        self.second = second
        places = {}
        kinds = []
        for pair in zip(first.kind_of, second.kind_of):
            kinds.append(places.setdefault(pair, len(places)))
        self.pairs = list(places)
        self.kind_of = kinds

    # There are at most 256 letters, so no more than 8 joints lie within one another.
    def sums(self, numbers):
        ones = self.first.sums(numbers)
        others = self.second.sums(numbers)
        return [ones[one] + others[other] for one, other in self.pairs]


def letters_of(machine):
    widths = {}
    for span, width in enumerate(span_widths(machine.starts)):
        column = tuple([row[span] for row in machine.rows])
        widths[column] = widths.get(column, 0) + width
    return [Letter(column, width) for column, width in widths.items()]


# Answers the part that has all of the machine's bytes.
def whole_part(machine):
    parts = letters_of(machine)
    while len(parts) > 1:
        even = len(parts) - len(parts) % 2
        joints = [Joint(parts[place], parts[place + 1]) for place in range(0, even, 2)]
        parts = joints + parts[even:]
    return parts[0]


# Answers for each state the sum over all 256 bytes.
def state_sums(whole, numbers):
    sums = whole.sums(numbers)
    return [sums[kind] for kind in whole.kind_of]
