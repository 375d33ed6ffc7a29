"""Many sessions, answered beside a model that never forgets a move and works with sets of moves.

The model is written from the document's terms alone and shares nothing with the package. It also
watches over those requirements that the six calls do not show.
"""

import random
import unittest

from helper import ask, begin, compact, deliver, joined, move, send, tree

PLACED, NO_PARENT, INTO_ITSELF = 1, 2, 3


def put(parents, labels, node, parent, label):
    """Applies a move to a tree written as two dicts."""
    if parent not in (0, 1) and parent not in parents:
        return NO_PARENT
    above = [parent]
    while above[-1] in parents:
        above.append(parents[above[-1]])
    if node in above:
        return INTO_ITSELF
    parents[node] = parent
    labels[node] = label
    return PLACED


def grown(moves):
    """The tree that results from all these moves; a move is (counter, replica, number, node, parent, label)."""
    parents, labels = {}, {}
    for one in sorted(moves):
        put(parents, labels, *one[3:])
    return parents, labels


def rows(parents, labels, top, depth=1):
    found = []
    for node in sorted(node for node in parents if parents[node] == top):
        found.append((node, depth, labels[node]))
        found += rows(parents, labels, node, depth + 1)
    return found


class Model:
    def __init__(self):
        self.begin(1)

    def begin(self, replicas):
        if not 1 <= replicas <= 6:
            return [-1]
        self.size = replicas
        self.received = [set() for _ in range(replicas)]
        self.compacted = [set() for _ in range(replicas)]
        # known[a][b]: what a knows that b has received; reported[a][b]: the clock that b told a.
        self.known = [[set() for _ in range(replicas)] for _ in range(replicas)]
        self.reported = [[0] * replicas for _ in range(replicas)]
        self.clock = [0] * replicas
        self.messages = []
        self.made = 0
        return [0]

    def move(self, replica, node, parent, label):
        if replica >= self.size:
            return [-2]
        if not 2 <= node <= 63 or parent > 63 or label > 1000000000:
            return [-1]
        if self.made >= 80:
            return [-5]
        self.made += 1
        outcome = put(*grown(self.received[replica]), node, parent, label)
        self.clock[replica] += 1
        number = 1 + len([one for one in self.received[replica] if one[1] == replica])
        self.received[replica].add((self.clock[replica], replica, number, node, parent, label))
        return [number, self.clock[replica], outcome]

    def send(self, sender, receiver):
        if sender >= self.size or receiver >= self.size or sender == receiver:
            return [-2]
        if len(self.messages) >= 200:
            return [-5]
        moves = self.received[sender] - self.compacted[sender] - self.known[sender][receiver]
        self.messages.append((sender, receiver, frozenset(self.received[sender]), self.clock[sender], moves))
        return [len(self.messages) - 1, len(moves)]

    def deliver(self, message):
        if message >= len(self.messages):
            return [-2]
        sender, receiver, had, clock, moves = self.messages[message]
        fresh = moves - self.received[receiver]
        self.received[receiver] |= fresh
        # Requirement 4: what the message left out was there already.
        assert had <= self.received[receiver]
        self.known[receiver][sender] |= had
        self.clock[receiver] = max(self.clock[receiver], clock)
        self.reported[receiver][sender] = max(self.reported[receiver][sender], clock)
        return [len(fresh)]

    def compact(self, replica):
        if replica >= self.size:
            return [-2]
        others = [other for other in range(self.size) if other != replica]
        horizon = min([self.clock[replica]] + [self.reported[replica][other] for other in others])
        now = 0
        for one in sorted(self.received[replica] - self.compacted[replica]):
            if one[0] > horizon or any(one not in self.known[replica][other] for other in others):
                break
            self.compacted[replica].add(one)
            now += 1
        return [now, len(self.compacted[replica])]

    def tree(self, replica):
        if replica >= self.size:
            return [-2]
        found = rows(*grown(self.received[replica]), 0)
        return [len(found)] + joined(found)

    def answer(self, call):
        calls = [self.begin, self.move, self.send, self.deliver, self.compact, self.tree]
        return calls[call[0] - 1](*call[1:])


def some_call(dice, replicas, nodes, messages):
    """One call, seldom a wrong one."""
    def place():
        return dice.randrange(replicas + (dice.random() < 0.02))

    kind = dice.random()
    if kind < 0.30:
        return move(place(), dice.randrange(2, 2 + nodes), dice.randrange(2 + nodes), dice.randrange(1000))
    if kind < 0.52:
        return send(place(), place())
    if kind < 0.80:
        recent = max(0, messages - 4) if dice.random() < 0.6 else 0
        return deliver(dice.randrange(recent, messages + 1))
    if kind < 0.92:
        return compact(place())
    if kind < 0.998:
        return tree(place())
    return begin(dice.randrange(0, 8))


def some_session(seed, length=250):
    """The calls of a session, what the model answered to them, and the model as they left it."""
    dice = random.Random(seed)
    model = Model()
    nodes = dice.choice((2, 3, 5, 8, 62))
    calls = [begin(dice.choice((1, 2, 2, 3, 3, 4, 6)))]
    found = [model.answer(calls[0])]
    while len(calls) < length:
        call = some_call(dice, model.size, nodes, len(model.messages))
        calls.append(call)
        found.append(model.answer(call))
    return calls, found, model


def told(pairs, sent):
    """The calls by which the first of each pair tells the second, when `sent` messages are there already."""
    return joined([[send(one, other), deliver(sent + place)] for place, (one, other) in enumerate(pairs)])


class BesideTheModel(unittest.TestCase):
    def test_every_answer(self):
        for seed in range(200):
            calls, expected, _ = some_session(seed)
            found = ask(*calls)
            for place, call in enumerate(calls):
                self.assertEqual(found[place], expected[place], f"seed {seed}, call {place}: {call}")

    def test_the_sessions_reach_what_they_are_to_reach(self):
        outcomes, compacted, fresh = {1: 0, 2: 0, 3: 0}, 0, 0
        for seed in range(200):
            calls, found, model = some_session(seed)
            for call, answer in zip(calls, found):
                if call[0] == 2 and len(answer) == 3:
                    outcomes[answer[2]] += 1
                if call[0] == 5 and answer[0] > 0 and model.size > 1:
                    compacted += 1
                if call[0] == 4 and answer[0] > 0:
                    fresh += 1
        self.assertGreater(min(outcomes.values()), 300)
        self.assertGreater(compacted, 300)
        self.assertGreater(fresh, 1000)


class Requirements(unittest.TestCase):
    def test_1_and_6_compact_leaves_every_tree_and_nothing_compactable(self):
        for seed in range(100):
            calls, _, model = some_session(seed, 230)
            trees = [tree(replica) for replica in range(model.size)]
            twice = joined([[compact(replica)] * 2 for replica in range(model.size)])
            before = ask(*calls, *trees)[230:]
            found = ask(*calls, *twice, *trees)[230:]
            self.assertEqual(found[len(twice):], before, f"seed {seed}")
            self.assertEqual([answer[0] for answer in found[1:len(twice):2]], [0] * model.size, f"seed {seed}")

    def test_2_and_3_what_a_replica_has_compacted_has_been_received_by_all(self):
        for seed in range(200):
            _, _, model = some_session(seed)
            made = set().union(*model.received)
            for replica in range(model.size):
                compacted = model.compacted[replica]
                for received in model.received:
                    self.assertLessEqual(compacted, received)
                for missing in made - model.received[replica]:
                    self.assertTrue(all(one[:2] < missing[:2] for one in compacted))

    def test_5_the_same_counts_give_the_same_tree(self):
        for seed in range(200):
            calls, _, model = some_session(seed, 200)
            for one in range(model.size):
                other = (one + 1) % model.size
                if one != other:
                    both = told([(one, other), (other, one)], len(model.messages))
                    for more in ([], [compact(one)], [compact(other)]):
                        found = ask(*calls, *both, *more, tree(one), tree(other))
                        self.assertEqual(found[-2], found[-1], f"seed {seed}")

    def test_7_a_log_is_empty_when_all_have_told_that_they_have_everything(self):
        for replicas in range(1, 7):
            # The last one hears of all and tells all, and then each one tells each other one.
            pairs = [(one, replicas - 1) for one in range(replicas - 1)]
            pairs += [(replicas - 1, one) for one in range(replicas - 1)]
            pairs += [(one, other) for one in range(replicas) for other in range(replicas) if one != other]
            for seed in range(10):
                dice = random.Random(seed)
                calls = [begin(replicas)]
                for _ in range(20):
                    calls.append(move(dice.randrange(replicas), dice.randrange(2, 6), dice.randrange(6)))
                calls += told(pairs, 0)
                calls += [compact(replica) for replica in range(replicas)]
                self.assertEqual(ask(*calls)[-replicas:], [[20, 20]] * replicas)


if __name__ == "__main__":
    unittest.main()
