"""The calls on two objects, each with a drawing and perhaps its machine.

answers(calls) takes the calls one behind another and gives back, for each, how many numbers are answered, then these.
"""

from bytemachines.machines import BYTES
from bytemachines.making import drawn_machine

FULL = -1
OUT_OF_RANGE = -2
TOO_MANY_SETS = -3
NO_MACHINE = -4

MOST_STATES = 64
MOST_STEPS = 1024

OPEN_CALL = 1
STATE_CALL = 2
STEP_CALL = 3
MAKE_CALL = 4

# How many numbers stand behind the number of each call.
WIDTHS = {1: 1, 2: 2, 3: 5, 4: 1, 5: 2}


# What a call answers is the list of its numbers, a refusal a list of one.
class Drawing:
    def __init__(self):
        self.taking = []
        self.steps = []
        self.machine = None

    def has_state(self, state):
        return 0 <= state < len(self.taking)

    def add_state(self, takes):
        if takes != 0 and takes != 1:
            return [OUT_OF_RANGE]
        if len(self.taking) == MOST_STATES:
            return [FULL]
        self.taking.append(takes)
        self.machine = None
        return [len(self.taking) - 1]

    def add_step(self, source, low, high, target):
        if not (self.has_state(source) and 0 <= low <= high < BYTES and self.has_state(target)):
            return [OUT_OF_RANGE]
        if len(self.steps) == MOST_STEPS:
            return [FULL]
        self.steps.append((source, low, high, target))
        self.machine = None
        return [0]

    def make(self):
        # A machine that is still there is this drawing's: no state and no step has come since it was made.
        if self.machine is None:
            self.machine = drawn_machine(self.taking, self.steps)
        if self.machine is None:
            return [TOO_MANY_SETS]
        return [self.machine.size()]

    def row(self, state):
        if self.machine is None:
            return [NO_MACHINE]
        if not 0 <= state < self.machine.size():
            return [OUT_OF_RANGE]
        return [0] + self.machine.whole_row(state) + [self.machine.taking[state]]


def answer(drawing, call, rest):
    if call == STATE_CALL:
        return drawing.add_state(rest[0])
    if call == STEP_CALL:
        return drawing.add_step(rest[0], rest[1], rest[2], rest[3])
    if call == MAKE_CALL:
        return drawing.make()
    # Of the calls in WIDTHS only row is left.
    return drawing.row(rest[0])


def answers(calls):
    drawings = [None, None]
    told = []
    place = 0
    while place < len(calls):
        call = calls[place]
        end = place + 1 + WIDTHS[call]
        which = calls[place + 1]
        if call == OPEN_CALL:
            drawings[which] = Drawing()
            said = [0]
        else:
            said = answer(drawings[which], call, calls[place + 2:end])
        told.append(len(said))
        told.extend(said)
        place = end
    return told
