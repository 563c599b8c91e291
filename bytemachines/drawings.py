"""The calls on two objects, each with a drawing and perhaps its machine.

answers(calls) takes the calls one behind another and gives back, for each, how many numbers are answered, then these.
"""

from bytemachines.comparing import first_apart
from bytemachines.counting import Counts
from bytemachines.machines import BYTES
from bytemachines.making import drawn_machine
from bytemachines.ordering import word_at

FULL = -1
NO_WORD = -1
OUT_OF_RANGE = -2
TOO_MANY_SETS = -3
NO_MACHINE = -4

MOST_STATES = 64
MOST_STEPS = 1024
MOST_TRIED = 65536
MOST_COUNTED = 4096
MOST_TOLD = 4096

OPEN_CALL = 1
STATE_CALL = 2
STEP_CALL = 3
MAKE_CALL = 4
ROW_CALL = 5
TAKES_CALL = 6
COUNT_CALL = 7
WORD_CALL = 8

# How many numbers stand behind the number of each call; behind those of takes stands its word.
WIDTHS = {1: 1, 2: 2, 3: 5, 4: 1, 5: 2, 6: 3, 7: 2, 8: 3, 9: 3}


def told_word(word, most):
    if word is None:
        return [NO_WORD]
    return [len(word)] + word[:most]


# What a call answers is the list of its numbers, a refusal a list of one.
class Drawing:
    def __init__(self):
        self.taking = []
        self.steps = []
        self.machine = None
        self.machine_counts = None

    def has_state(self, state):
        return 0 <= state < len(self.taking)

    def forget_machine(self):
        self.machine = None
        self.machine_counts = None

    def add_state(self, takes):
        if takes != 0 and takes != 1:
            return [OUT_OF_RANGE]
        if len(self.taking) == MOST_STATES:
            return [FULL]
        self.taking.append(takes)
        self.forget_machine()
        return [len(self.taking) - 1]

    def add_step(self, source, low, high, target):
        if not (self.has_state(source) and 0 <= low <= high < BYTES and self.has_state(target)):
            return [OUT_OF_RANGE]
        if len(self.steps) == MOST_STEPS:
            return [FULL]
        self.steps.append((source, low, high, target))
        self.forget_machine()
        return [0]

    def make(self):
        # A machine that is still there is this drawing's: no state and no step has come since it was made.
        if self.machine is None:
            self.machine = drawn_machine(self.taking, self.steps)
        if self.machine is None:
            return [TOO_MANY_SETS]
        return [self.machine.size()]

    def row(self, state):
        if self.machine is None:
            return [NO_MACHINE]
        if not 0 <= state < self.machine.size():
            return [OUT_OF_RANGE]
        return [0] + self.machine.whole_row(state) + [self.machine.taking[state]]

    # Only where there's a machine: its counts, which are kept as long as it is.
    def counts(self):
        if self.machine_counts is None:
            self.machine_counts = Counts(self.machine)
        return self.machine_counts

    def try_word(self, length, word):
        if not 0 <= length <= MOST_TRIED:
            return [OUT_OF_RANGE]
        if self.machine is None:
            return [NO_MACHINE]
        return [self.machine.takes(word)]

    def count_words(self, length):
        if not 0 <= length <= MOST_COUNTED:
            return [OUT_OF_RANGE]
        if self.machine is None:
            return [NO_MACHINE]
        return [0, self.counts().wrapped_count(length)]

    def tell_word(self, place, most):
        if not 0 <= most <= MOST_TOLD:
            return [OUT_OF_RANGE]
        if self.machine is None:
            return [NO_MACHINE]
        return told_word(word_at(self.machine, self.counts(), place), most)

    def tell_apart(self, other, most):
        if not 0 <= most <= MOST_TOLD:
            return [OUT_OF_RANGE]
        if self.machine is None or other.machine is None:
            return [NO_MACHINE]
        return told_word(first_apart(self.machine, other.machine), most)


# numbers has the whole call, its own number first.
def answer(drawings, numbers):
    call = numbers[0]
    which = numbers[1]
    if call == OPEN_CALL:
        drawings[which] = Drawing()
        return [0]
    drawing = drawings[which]
    if call == STATE_CALL:
        return drawing.add_state(numbers[2])
    if call == STEP_CALL:
        return drawing.add_step(numbers[2], numbers[3], numbers[4], numbers[5])
    if call == MAKE_CALL:
        return drawing.make()
    if call == ROW_CALL:
        return drawing.row(numbers[2])
    if call == TAKES_CALL:
        return drawing.try_word(numbers[2], numbers[4:])
    if call == COUNT_CALL:
        return drawing.count_words(numbers[2])
    if call == WORD_CALL:
        return drawing.tell_word(numbers[2], numbers[3])
    # Of the calls in WIDTHS only apart is left.
    return drawing.tell_apart(drawings[numbers[2]], numbers[3])


def end_of_call(calls, place):
    end = place + 1 + WIDTHS[calls[place]]
    if calls[place] == TAKES_CALL:
        return end + calls[end - 1]
    return end


def answers(calls):
    drawings = [None, None]
    told = []
    place = 0
    while place < len(calls):
        end = end_of_call(calls, place)
        said = answer(drawings, calls[place:end])
        told.append(len(said))
        told.extend(said)
        place = end
    return told
