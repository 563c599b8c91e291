"""The document's words done in the plainest way, to set the program's answers against."""


def led(steps, members, byte):
    return frozenset(target for source, low, high, target in steps if source in members and low <= byte <= high)


def plain_sets(taking, steps, most=None):
    """Answer the sets that words lead to, each with its 256 sets; None if there are more than most."""
    first = frozenset([0] if taking else [])
    rows = {}
    waiting = [first]
    while waiting:
        members = waiting.pop()
        if members not in rows:
            rows[members] = [led(steps, members, byte) for byte in range(256)]
            waiting.extend(sorted(set(rows[members]), key=sorted))
        if most is not None and len(rows) > most:
            return None
    return first, rows


def plain_classes(taking, rows):
    """Answer for each set a number, the same for those from which the same words are taken."""
    classes = {members: int(any(taking[state] for state in members)) for members in rows}
    while True:
        looks = {members: (classes[members], tuple(classes[led_to] for led_to in rows[members])) for members in rows}
        numbers = {look: number for number, look in enumerate(dict.fromkeys(looks.values()))}
        finer = {members: numbers[looks[members]] for members in rows}
        if len(numbers) == len(set(classes.values())):
            return finer
        classes = finer


def plain_machine(taking, steps, most=None):
    """Answer for each state of the drawing's machine 256 states and 1 or 0; None if more than most sets are reached."""
    found = plain_sets(taking, steps, most)
    if found is None:
        return None
    first, rows = found
    classes = plain_classes(taking, rows)
    order = [first]
    numbers = {classes[first]: 0}
    for members in order:
        for led_to in rows[members]:
            if classes[led_to] not in numbers:
                numbers[classes[led_to]] = len(order)
                order.append(led_to)
    return [
        ([numbers[classes[led_to]] for led_to in rows[members]], int(any(taking[state] for state in members)))
        for members in order
    ]


def drawing_takes(taking, steps, word):
    members = frozenset([0] if taking else [])
    for byte in word:
        members = led(steps, members, byte)
    return int(any(taking[state] for state in members))


def machine_takes(rows, word):
    state = 0
    for byte in word:
        state = rows[state][0][byte]
    return rows[state][1]


def plain_counts(rows, length):
    """Answer for each length up to this one, for each state, just how many words of so many bytes are taken from it."""
    weights = [[(target, targets.count(target)) for target in set(targets)] for targets, takes in rows]
    counts = [[takes for targets, takes in rows]]
    for done in range(length):
        counts.append([sum(counts[-1][target] * times for target, times in pairs) for pairs in weights])
    return counts


def plain_word(rows, place):
    """Answer the word, of 256 bytes at most, with place words before it; None if there's none."""
    counts = plain_counts(rows, 256)
    length = 0
    while length <= 256 and place >= counts[length][0]:
        place -= counts[length][0]
        length += 1
    if length > 256:
        return None
    word, state = [], 0
    while len(word) < length:
        byte = 0
        while place >= counts[length - len(word) - 1][rows[state][0][byte]]:
            place -= counts[length - len(word) - 1][rows[state][0][byte]]
            byte += 1
        word.append(byte)
        state = rows[state][0][byte]
    return word


def plain_apart(rows, others):
    """Answer the first word that leads to a pair of states of which just one takes; None if there's no such pair."""
    words = {(0, 0): []}
    waiting = [(0, 0)]
    for pair in waiting:
        if rows[pair[0]][1] != others[pair[1]][1]:
            return words[pair]
        for byte in range(256):
            led_to = (rows[pair[0]][0][byte], others[pair[1]][0][byte])
            if led_to not in words:
                words[led_to] = words[pair] + [byte]
                waiting.append(led_to)
    return None


class PlainObject:
    def __init__(self):
        self.taking = []
        self.steps = []
        self.rows = None

    def state(self, takes):
        if takes not in (0, 1):
            return [-2]
        if len(self.taking) == 64:
            return [-1]
        self.taking.append(takes)
        self.rows = None
        return [len(self.taking) - 1]

    def step(self, source, low, high, target):
        states, all_bytes = range(len(self.taking)), range(256)
        if source not in states or target not in states or low not in all_bytes or high not in all_bytes or low > high:
            return [-2]
        if len(self.steps) == 1024:
            return [-1]
        self.steps.append((source, low, high, target))
        self.rows = None
        return [0]

    def make(self):
        self.rows = plain_machine(self.taking, self.steps, 1024)
        return [-3] if self.rows is None else [len(self.rows)]

    def row(self, state):
        if self.rows is None:
            return [-4]
        if state not in range(len(self.rows)):
            return [-2]
        return [0, *self.rows[state][0], self.rows[state][1]]

    def refused(self, number, most, other=None):
        if number not in range(most + 1):
            return [-2]
        if self.rows is None or (other is not None and other.rows is None):
            return [-4]
        return None

    def takes(self, n, word):
        return self.refused(n, 65536) or [machine_takes(self.rows, word)]

    def count(self, n):
        return self.refused(n, 4096) or [0, plain_counts(self.rows, n)[n][0] % 2 ** 64]

    def word(self, k, most):
        return self.refused(most, 4096) or told_word(plain_word(self.rows, k), most)

    def apart(self, other, most):
        return self.refused(most, 4096, other) or told_word(plain_apart(self.rows, other.rows), most)


def told_word(word, most):
    return [-1] if word is None else [len(word), *word[:most]]


def plain_told(calls):
    """Answer what each of these calls is answered, as a list of lists."""
    objects = {}
    said = []
    for number, o, *rest in calls:
        if number == 1:
            objects[o] = PlainObject()
            said.append([0])
        elif number == 6:
            said.append(objects[o].takes(rest[0], rest[2:]))
        elif number == 9:
            said.append(objects[o].apart(objects[rest[0]], rest[1]))
        else:
            names = {2: "state", 3: "step", 4: "make", 5: "row", 7: "count", 8: "word"}
            said.append(getattr(objects[o], names[number])(*rest))
    return said
