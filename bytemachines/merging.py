"""Finds the states of a machine from which the same words are taken.

The states stand in blocks. Two in different blocks are known to differ; a block is split as more is known.
A state's look is the row of blocks that its steps lead to.
"""


class Blocks:
    def __init__(self, size):
        self.block_of = [0] * size
        self.members = [list(range(size))]

    def look_of(self, row):
        return tuple([self.block_of[target] for target in row])

    # Answers the states whose block is another one now.
    def split_block(self, block, parts):
        # The largest part stays, so that a state which moves is in a block of at most half the size: it moves seldom.
        ordered = sorted(parts, key=len, reverse=True)
        self.members[block] = ordered[0]
        moved = []
        for part in ordered[1:]:
            for state in part:
                self.block_of[state] = len(self.members)
            self.members.append(part)
            moved.extend(part)
        return moved

    def touched_by_look(self, touched, rows):
        found = {}
        for state in touched:
            block = self.block_of[state]
            # A state alone in its block has nothing to be told apart from.
            if len(self.members[block]) > 1:
                looks = found.setdefault(block, {})
                looks.setdefault(self.look_of(rows[state]), []).append(state)
        return found

    # touched are the states with a step to one that has just moved.
    def split_touched(self, touched, rows):
        # All looks are taken before the first block is split, so that they all tell of the same blocks.
        found = self.touched_by_look(touched, rows)
        moved = []
        for block, looks in found.items():
            parts = list(looks.values())
            # The others of the block still look alike, and unlike the touched: these lead to a block that is new.
            rest = [state for state in self.members[block] if state not in touched]
            if len(rest) > 0:
                parts.append(rest)
            moved.extend(self.split_block(block, parts))
        return moved


def sources_of(rows):
    sources = [[] for row in rows]
    for state, row in enumerate(rows):
        for target in sorted(set(row)):
            sources[target].append(state)
    return sources


def touched_by(moved, sources):
    touched = {}
    for state in moved:
        for source in sources[state]:
            touched[source] = True
    return touched


# Answers each state's block: two states share one if the same words are taken from both, and only then.
def merged_blocks(rows, taking):
    blocks = Blocks(len(rows))
    takers = [state for state, takes in enumerate(taking) if takes == 1]
    others = [state for state, takes in enumerate(taking) if takes == 0]
    moved = blocks.split_block(0, [part for part in (takers, others) if len(part) > 0])
    sources = sources_of(rows)
    while len(moved) > 0:
        moved = blocks.split_touched(touched_by(moved, sources), rows)
    return blocks.block_of
