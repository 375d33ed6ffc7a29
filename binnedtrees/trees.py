"""Moves, and the trees that they are applied to."""

ROOT = 0
BIN = 1

PLACED = 1
NO_PARENT = 2
INTO_ITSELF = 3


# A move is never changed once it is made, so logs and messages may share it.
class Move:
    def __init__(self, origin, number, counter, node, parent, label):
        self.origin = origin
        self.number = number
        self.counter = counter
        self.node = node
        self.parent = parent
        self.label = label


def timestamp(move):
    return (move.counter, move.origin)


# The root and the bin stand in neither dict, since they have no parent and no label.
class Tree:
    def __init__(self):
        self.parents = {}
        self.labels = {}

    def twin(self):
        other = Tree()
        other.parents = dict(self.parents)
        other.labels = dict(self.labels)
        return other

    def same_as(self, other):
        return self.parents == other.parents and self.labels == other.labels

    def has(self, node):
        return node == ROOT or node == BIN or node in self.parents

    def is_within(self, node, top):
        reached = node
        while reached != top and reached in self.parents:
            reached = self.parents[reached]
        return reached == top

    # Gives back the outcome.
    def apply(self, move):
        if not self.has(move.parent):
            return NO_PARENT
        if self.is_within(move.parent, move.node):
            return INTO_ITSELF
        self.parents[move.node] = move.parent
        self.labels[move.node] = move.label
        return PLACED

    # Gives back a row (node, depth, label) for each node, in the order in which they are answered.
    def rows_below(self, top):
        rows = []
        depths = {top: 0}
        waiting = [top]
        while waiting:
            node = waiting.pop()
            if node != top:
                rows.append((node, depths[node], self.labels[node]))
            # The last one put here is the next one taken, so the smallest child goes last.
            for child in sorted(self.parents, reverse=True):
                if self.parents[child] == node:
                    depths[child] = depths[node] + 1
                    waiting.append(child)
        return rows
