"""The requirements of the document, held against nothing but the answers of many sessions."""

import unittest

from helper import (
    LARGEST, Thrown, all_told, ask, begin, compact, compactable, compare, deliver, horizon, in_bin, log, move, nodes,
    send, told, tree)


class Seen:
    """A session of random calls, and what its answers tell of the moves."""

    def __init__(self, seed, length, *more):
        thrown = Thrown(seed, length)
        self.calls = thrown.calls + list(more)
        self.sent = thrown.messages
        self.size = thrown.replicas
        self.replicas = range(self.size)
        self.answers = ask(*self.calls)
        # Each move made since the last begin: (counter, replica), its number, then node, parent and label.
        self.made = []
        for call, answer in zip(self.calls, self.answers):
            if call[0] == 1 and answer == [0]:
                self.made = []
            if call[0] == 2 and len(answer) == 3:
                self.made.append(((answer[1], call[1]), answer[0], call[2:]))
        self.made.sort()

    def then(self, *calls):
        """What these calls answer at the end of the session."""
        return ask(*self.calls, *calls)[len(self.calls):]

    def received(self, replica):
        counts = self.then(horizon(replica))[0][1:]
        return [one for one in self.made if one[1] <= counts[one[0][1]]]

    def compacted(self, replica):
        left = self.then(log(replica))[0][1:]
        pairs = list(zip(left[::2], left[1::2]))
        return [one for one in self.received(replica) if (one[0][1], one[1]) not in pairs]

    def tell_all(self):
        return told(all_told(self.size), self.sent)


def rebuilt(made):
    """What tree and bin answer when these moves are applied in their order to the root and the bin alone."""
    children, labels = {0: [], 1: []}, {}

    def below(top, depth=1):
        return [row for child in sorted(children[top])
                for row in [(child, depth, labels[child])] + below(child, depth + 1)]

    for _, _, (node, parent, label) in made:
        if parent not in children or node == parent or node in children and parent in [row[0] for row in below(node)]:
            continue
        for others in children.values():
            if node in others:
                others.remove(node)
        children.setdefault(node, [])
        children[parent].append(node)
        labels[node] = label
    return [nodes(*below(0)), nodes(*below(1))]


class Requirements(unittest.TestCase):
    def test_1_the_tree_results_from_all_received_moves(self):
        filled = 0
        for seed in range(300):
            seen = Seen(seed, 20 + seed % 200)
            for replica in seen.replicas:
                expected = rebuilt(seen.received(replica))
                filled += expected[0][0] > 0 and expected[1][0] > 0 and seen.compacted(replica) != []
                for more in ([], [compact(replica)]):
                    found = seen.then(*more, tree(replica), in_bin(replica))
                    self.assertEqual(found[-2:], expected, f"seed {seed}, replica {replica}")
        self.assertGreater(filled, 40)

    def test_2_a_move_that_is_not_received_is_later_than_all_compacted_ones(self):
        missing = 0
        for seed in range(300):
            # The compacts at the end leave nothing in the logs that may go.
            replicas = Thrown(seed, 20 + seed % 120).replicas
            more = [compact(replica) for replica in range(replicas)]
            more += [move(replica, 2, 0) for replica in range(replicas)]
            seen = Seen(seed, 20 + seed % 120, *more)
            for replica in seen.replicas:
                compacted, received = seen.compacted(replica), seen.received(replica)
                for one in seen.made:
                    if compacted and one not in received:
                        missing += 1
                        self.assertGreater(one[0], compacted[-1][0], f"seed {seed}, replica {replica}")
        self.assertGreater(missing, 300)

    def test_3_a_compacted_move_has_been_received_by_all(self):
        for seed in range(300):
            replicas = Thrown(seed, 20 + seed % 200).replicas
            seen = Seen(seed, 20 + seed % 200, *[compact(replica) for replica in range(replicas)])
            received = [seen.received(replica) for replica in seen.replicas]
            for replica in seen.replicas:
                for one in seen.compacted(replica):
                    self.assertTrue(all(one in theirs for theirs in received), f"seed {seed}, {one}")

    def test_4_counts_after_a_delivery(self):
        for seed in range(200):
            calls = Thrown(seed, 120).calls
            mixed, counts, sent = [], {}, []
            for call, answer in zip(calls, ask(*calls)):
                if call[0] == 1 and answer == [0]:
                    sent = []
                if call[0] == 3 and len(answer) == 2:
                    counts[len(mixed)] = None
                    sent.append((len(mixed), call[2]))
                    mixed.append(horizon(call[1]))
                mixed.append(call)
                if call[0] == 4 and answer != [-2]:
                    counts[len(mixed)] = sent[call[1]][0]
                    mixed.append(horizon(sent[call[1]][1]))
            found = ask(*mixed)
            for place, before in counts.items():
                if before is not None:
                    pairs = zip(found[place][1:], found[before][1:])
                    self.assertTrue(all(one >= other for one, other in pairs), f"seed {seed}, call {place}")

    def test_5_the_same_counts_give_the_same_tree(self):
        same = 0
        for seed in range(300):
            seen = Seen(seed, 20 + seed % 120)
            for one in seen.replicas:
                for other in range(one):
                    both = told([(one, other), (other, one)], seen.sent)
                    for more in ([], both, both + [compact(one)], both + [compact(other)]):
                        found = seen.then(
                            *more, horizon(one), horizon(other), tree(one), tree(other), in_bin(one), in_bin(other),
                            compare(one, other))[len(more):]
                        equal = found[0][1:] == found[1][1:]
                        self.assertEqual(found[6][0], int(equal), f"seed {seed}")
                        self.assertTrue(equal or not more)
                        if equal:
                            same += 1
                            self.assertEqual((found[2], found[4], found[6]), (found[3], found[5], [1, 1]))
        self.assertGreater(same, 1000)

    def test_6_what_compact_leaves(self):
        compacts = 0
        for seed in range(300):
            seen = Seen(seed, 20 + seed % 200)
            for replica in seen.replicas:
                asked = [tree(replica), in_bin(replica), horizon(replica)]
                asked += [compare(replica, other) for other in seen.replicas]
                questions = [log(replica), compactable(replica), *asked]
                found = seen.then(*questions, compact(replica), *questions, compact(replica))
                before, answer, after = found[:len(questions)], found[len(questions)], found[len(questions) + 1:-1]
                self.assertEqual(before[2:], after[2:], f"seed {seed}, replica {replica}")
                self.assertEqual(before[1], answer[:1])
                self.assertEqual(before[0][1 + 2 * answer[0]:], after[0][1:])
                self.assertEqual(before[0][0] - answer[0], after[0][0])
                self.assertEqual(after[1], [0])
                self.assertEqual(found[-1], [0, answer[1]])
                compacts += answer[0] > 0
        self.assertGreater(compacts, 100)

    def test_7_the_log_is_empty_when_all_have_told_that_they_have_everything(self):
        for seed in range(300):
            seen = Seen(seed, 20 + seed % 100)
            compacts = [compact(replica) for replica in seen.replicas]
            logs = [log(replica) for replica in seen.replicas]
            found = seen.then(*seen.tell_all(), *compacts, *logs)
            self.assertEqual(found[-seen.size:], [[0]] * seen.size, f"seed {seed}")
            self.assertEqual([answer[1] for answer in found[-2 * seen.size:-seen.size]],
                             [len(seen.made)] * seen.size)

    def test_7_holds_for_a_log_that_nothing_was_compacted_of(self):
        for replicas in range(1, 7):
            calls = [begin(replicas)] + [move(step % replicas, 2 + step % 5, step % 4) for step in range(20)]
            calls += told(all_told(replicas), 0) + [compact(replica) for replica in range(replicas)]
            self.assertEqual(ask(*calls)[-replicas:], [[20, 20]] * replicas)

    def test_8_errors_change_nothing(self):
        errors = 0
        for seed in range(300):
            thrown = Thrown(seed, 20 + seed % 200)
            found = ask(*thrown.calls)
            right = [place for place, answer in enumerate(found) if answer[0] >= 0]
            errors += len(found) - len(right)
            self.assertEqual(ask(*[thrown.calls[place] for place in right]), [found[place] for place in right])
            wrong = [
                begin(LARGEST), move(0, 64, 0), send(0, 0), deliver(LARGEST), compact(6), tree(6), in_bin(6), log(6),
                horizon(6), compactable(6), compare(0, 6)]
            mixed = []
            for place, call in enumerate(thrown.calls):
                mixed += [wrong[(seed + place) % len(wrong)], call]
            self.assertEqual(ask(*mixed)[1::2], found)
        self.assertGreater(errors, 300)


if __name__ == "__main__":
    unittest.main()
