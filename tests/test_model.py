"""Many sessions, answered beside a model that never forgets a move and works with sets of moves.

The model is written from the document's terms alone and shares nothing with the package.
"""

import unittest

from helper import Thrown, all_told, ask, compact, everything, log, moves, nodes, told

PLACED, NO_PARENT, INTO_ITSELF = 1, 2, 3


def put(parents, labels, node, parent, label):
    """Applies a move to a tree written as two dicts."""
    if parent not in (0, 1) and parent not in parents:
        return NO_PARENT
    above = [parent]
    while above[-1] in parents:
        above.append(parents[above[-1]])
    if node in above:
        return INTO_ITSELF
    parents[node] = parent
    labels[node] = label
    return PLACED


def grown(moves):
    """The tree that results from all these moves; a move is (counter, replica, number, node, parent, label)."""
    parents, labels = {}, {}
    for one in sorted(moves):
        put(parents, labels, *one[3:])
    return parents, labels


def rows(parents, labels, top, depth=1):
    found = []
    for node in sorted(node for node in parents if parents[node] == top):
        found.append((node, depth, labels[node]))
        found += rows(parents, labels, node, depth + 1)
    return found


class Model:
    def __init__(self):
        self.begin(1)

    def begin(self, replicas):
        if not 1 <= replicas <= 6:
            return [-1]
        self.size = replicas
        self.received = [set() for _ in range(replicas)]
        self.compacted = [set() for _ in range(replicas)]
        # known[a][b]: what a knows that b has received; reported[a][b]: the clock that b told a.
        self.known = [[set() for _ in range(replicas)] for _ in range(replicas)]
        self.reported = [[0] * replicas for _ in range(replicas)]
        self.clock = [0] * replicas
        self.messages = []
        self.made = 0
        return [0]

    def move(self, replica, node, parent, label):
        if replica >= self.size:
            return [-2]
        if not 2 <= node <= 63 or parent > 63 or label > 1000000000:
            return [-1]
        if self.made >= 80:
            return [-5]
        self.made += 1
        outcome = put(*grown(self.received[replica]), node, parent, label)
        self.clock[replica] += 1
        number = 1 + len([one for one in self.received[replica] if one[1] == replica])
        self.received[replica].add((self.clock[replica], replica, number, node, parent, label))
        return [number, self.clock[replica], outcome]

    def send(self, sender, receiver):
        if sender >= self.size or receiver >= self.size or sender == receiver:
            return [-2]
        if len(self.messages) >= 200:
            return [-5]
        moves = self.received[sender] - self.compacted[sender] - self.known[sender][receiver]
        self.messages.append((sender, receiver, frozenset(self.received[sender]), self.clock[sender], moves))
        return [len(self.messages) - 1, len(moves)]

    def deliver(self, message):
        if message >= len(self.messages):
            return [-2]
        sender, receiver, had, clock, moves = self.messages[message]
        fresh = moves - self.received[receiver]
        self.received[receiver] |= fresh
        # Requirement 4: what the message left out was there already.
        assert had <= self.received[receiver]
        self.known[receiver][sender] |= had
        self.clock[receiver] = max(self.clock[receiver], clock)
        self.reported[receiver][sender] = max(self.reported[receiver][sender], clock)
        return [len(fresh)]

    def others(self, replica):
        return [other for other in range(self.size) if other != replica]

    def smallest_clock(self, replica):
        return min([self.clock[replica]] + [self.reported[replica][other] for other in self.others(replica)])

    def in_log(self, replica):
        return sorted(self.received[replica] - self.compacted[replica])

    def may_go(self, replica):
        """The compactable moves."""
        found = []
        for one in self.in_log(replica):
            known_by_all = all(one in self.known[replica][other] for other in self.others(replica))
            if one[0] > self.smallest_clock(replica) or not known_by_all:
                break
            found.append(one)
        return found

    def compact(self, replica):
        if replica >= self.size:
            return [-2]
        now = self.may_go(replica)
        self.compacted[replica].update(now)
        return [len(now), len(self.compacted[replica])]

    def below(self, replica, top):
        if replica >= self.size:
            return [-2]
        return nodes(*rows(*grown(self.received[replica]), top))

    def tree(self, replica):
        return self.below(replica, 0)

    def in_bin(self, replica):
        return self.below(replica, 1)

    def log(self, replica):
        if replica >= self.size:
            return [-2]
        return moves(*[(one[1], one[2]) for one in self.in_log(replica)])

    def counts(self, replica):
        return [len([one for one in self.received[replica] if one[1] == origin]) for origin in range(self.size)]

    def horizon(self, replica):
        if replica >= self.size:
            return [-2]
        return [self.smallest_clock(replica)] + self.counts(replica)

    def compactable(self, replica):
        if replica >= self.size:
            return [-2]
        return [len(self.may_go(replica))]

    def compare(self, replica, other):
        if replica >= self.size or other >= self.size:
            return [-2]
        same_counts = self.counts(replica) == self.counts(other)
        same_tree = grown(self.received[replica]) == grown(self.received[other])
        return [int(same_counts), int(same_tree)]

    def all_have_told(self, replica):
        """What requirement 7 asks for before the log of the replica can be emptied."""
        return all(
            self.known[replica][other] == self.received[replica]
            and self.reported[replica][other] >= self.clock[replica] for other in self.others(replica))

    def answer(self, call):
        calls = [
            self.begin, self.move, self.send, self.deliver, self.compact, self.tree, self.in_bin, self.log,
            self.horizon, self.compactable, self.compare]
        return calls[call[0] - 1](*call[1:])


def modelled(seed, length):
    """The calls of a session, what the model answers to them, and the model as they leave it."""
    model = Model()
    calls = Thrown(seed, length).calls
    return calls, [model.answer(call) for call in calls], model


class BesideTheModel(unittest.TestCase):
    def test_every_answer(self):
        for seed in range(400):
            calls, expected, _ = modelled(seed, 250)
            found = ask(*calls)
            for place, call in enumerate(calls):
                self.assertEqual(found[place], expected[place], f"seed {seed}, call {place}: {call}")

    def test_everything_at_the_end(self):
        for seed in range(400, 700):
            calls, _, model = modelled(seed, 20 + seed % 150)
            expected = [model.answer(call) for call in everything(model.size)]
            self.assertEqual(ask(*calls, *everything(model.size))[len(calls):], expected, f"seed {seed}")

    def test_requirement_7(self):
        emptied = 0
        for seed in range(300):
            calls, _, model = modelled(seed, 30 + seed % 100)
            # Some tell others what they have, mostly not all of them.
            pairs = all_told(model.size)
            more = told(pairs[:seed % (len(pairs) + 1)], len(model.messages))
            for call in more:
                model.answer(call)
            for replica in range(model.size):
                if model.size > 1 and model.all_have_told(replica):
                    before, _, after = ask(*calls, *more, log(replica), compact(replica), log(replica))[-3:]
                    self.assertEqual(after, [0], f"seed {seed}")
                    emptied += before[0] > 0
        self.assertGreater(emptied, 50)


class WhatTheSessionsReach(unittest.TestCase):
    def setUp(self):
        self.reached = {}
        for seed in range(400):
            calls, found, model = modelled(seed, 250)
            for call, answer in zip(calls, found):
                self.note(call[0], answer)

    def note(self, operation, answer):
        seen = [tuple(answer)] if len(answer) == 1 or operation == 11 else []
        if operation == 2 and len(answer) == 3:
            seen.append(f"outcome {answer[2]}")
        if operation in (4, 5, 6, 7, 8, 10) and answer[0] > 0:
            seen.append("something")
        for one in seen:
            self.reached[operation, one] = self.reached.get((operation, one), 0) + 1

    def test_each_error(self):
        codes = {1: [-1], 2: [-2, -1, -5], 3: [-2, -5], 4: [-2]}
        for operation in range(1, 12):
            for code in codes.get(operation, [-2]):
                self.assertGreater(self.reached.get((operation, (code,)), 0), 20, (operation, code))

    def test_each_kind_of_answer(self):
        for operation, kinds in (
                (2, ("outcome 1", "outcome 2", "outcome 3")), (4, ("something", (0,))), (5, ("something",)),
                (6, ("something", (0,))), (7, ("something", (0,))), (8, ("something", (0,))),
                (10, ("something", (0,))), (11, ((1, 1), (0, 1), (0, 0)))):
            for kind in kinds:
                self.assertGreater(self.reached.get((operation, kind), 0), 100, (operation, kind))


if __name__ == "__main__":
    unittest.main()
