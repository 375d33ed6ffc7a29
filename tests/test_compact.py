import unittest

from helper import LARGEST, ask, begin, compact, deliver, last, move, nodes, send, tree
from binnedtrees.members import Replica


class OneReplica(unittest.TestCase):
    def test_every_move(self):
        found = ask(compact(0), move(0, 4, 0), move(0, 5, 4), move(0, 6, 9), compact(0), compact(0))
        self.assertEqual(found[0], [0, 0])
        self.assertEqual(found[4:], [[3, 3], [0, 3]])

    def test_the_total_over_several(self):
        found = ask(
            move(0, 4, 0), compact(0), move(0, 5, 4), move(0, 5, 5), compact(0), compact(0), move(0, 6, 5), compact(0),
            tree(0))
        self.assertEqual([found[place] for place in (1, 4, 5, 7)], [[1, 1], [2, 3], [0, 3], [1, 4]])
        self.assertEqual(found[-1], nodes((4, 1, 0), (5, 2, 0), (6, 3, 0)))


class TwoReplicas(unittest.TestCase):
    def test_nothing_without_confirmed_counts(self):
        found = ask(begin(2), move(0, 4, 0), compact(0), send(0, 1), compact(0), deliver(0), compact(0))
        self.assertEqual([found[place] for place in (2, 4, 6)], [[0, 0]] * 3)

    def test_whichever_of_them_has_not_told(self):
        for first, second in ((0, 1), (1, 0)):
            with self.subTest(first=first):
                found = ask(
                    begin(2), move(first, 4, 0), compact(first), send(first, second), deliver(0), compact(first),
                    send(second, first), deliver(1), compact(first))
                self.assertEqual([found[place] for place in (2, 5, 8)], [[0, 0], [0, 0], [1, 1]])

    def test_the_receiver_first_and_the_sender_after_an_answer(self):
        found = ask(
            begin(2), move(0, 4, 0), move(0, 5, 4), send(0, 1), deliver(0), compact(1), compact(0),
            send(1, 0), compact(0), deliver(1), compact(0), compact(0))
        self.assertEqual([found[place] for place in (5, 6, 8, 10, 11)], [[2, 2], [0, 0], [0, 0], [2, 2], [0, 2]])

    def test_only_what_the_answer_confirms(self):
        found = ask(
            begin(2), move(0, 4, 0), send(0, 1), deliver(0), send(1, 0), move(0, 5, 4), move(0, 6, 5), deliver(1),
            compact(0), tree(0), send(0, 1), deliver(2), send(1, 0), deliver(3), compact(0))
        self.assertEqual(found[8:10], [[1, 1], nodes((4, 1, 0), (5, 2, 0), (6, 3, 0))])
        self.assertEqual(found[10:], [[2, 2], [2], [3, 0], [0], [2, 3]])

    def test_a_later_move_is_confirmed_and_an_earlier_one_is_not(self):
        found = ask(
            begin(2), move(0, 4, 0), move(1, 5, 0), move(1, 6, 0), send(1, 0), deliver(0), compact(0),
            send(0, 1), deliver(1), compact(1), compact(0), send(1, 0), deliver(2), compact(0))
        self.assertEqual(found[6:], [[0, 0], [1, 1], [1], [3, 3], [0, 0], [2, 0], [0], [3, 3]])

    def test_a_large_reported_clock_alone_confirms_nothing(self):
        for first, second, expected in ((0, 1, [0, 0]), (1, 0, [1, 1])):
            with self.subTest(first=first):
                found = ask(
                    begin(2), move(first, 4, 0), *[move(second, 5, 0)] * 5, send(second, first), deliver(0),
                    compact(first))
                self.assertEqual(found[-2:], [[5], expected])

    def test_a_confirmed_move_on_either_side_of_one_that_is_not(self):
        found = ask(
            begin(2), move(1, 5, 0, 1), send(1, 0), deliver(0), move(0, 4, 0, 2), move(1, 6, 0, 3), send(1, 0),
            deliver(1), compact(0), compact(0), tree(0))
        self.assertEqual(found[7:], [[1], [1, 1], [0, 1], nodes((4, 1, 2), (5, 1, 1), (6, 1, 3))])

    def test_each_replica_has_its_own_total(self):
        found = ask(begin(2), move(0, 4, 0), send(0, 1), deliver(0), compact(1), move(1, 5, 0), compact(1), compact(0))
        self.assertEqual([found[place] for place in (4, 6, 7)], [[1, 1], [0, 1], [0, 0]])


class ThreeReplicas(unittest.TestCase):
    def test_all_others_must_have_told(self):
        found = ask(
            begin(3), move(0, 4, 0), send(0, 1), send(0, 2), deliver(0), deliver(1), compact(1),
            send(2, 1), deliver(2), compact(1), compact(2),
            send(1, 0), deliver(3), compact(0), send(2, 0), deliver(4), compact(0))
        self.assertEqual([found[place] for place in (6, 9, 10, 13, 16)], [[0, 0], [1, 1], [0, 0], [0, 0], [1, 1]])

    def test_a_replica_that_told_before_it_had_the_move_confirms_nothing(self):
        found = ask(
            begin(3), send(2, 0), move(0, 4, 0), send(0, 1), send(0, 2), deliver(1), deliver(2), send(1, 0),
            deliver(3), deliver(0), compact(0), send(2, 0), deliver(4), compact(0))
        self.assertEqual([found[place] for place in (10, 13)], [[0, 0], [1, 1]])

    def test_the_confirmed_counts_of_one_do_not_stand_for_another(self):
        # Replica 1 has both moves and replica 2 the first one alone.
        found = ask(
            begin(3), move(0, 4, 0), send(0, 2), deliver(0), move(0, 5, 4), send(0, 1), deliver(1),
            send(2, 0), deliver(2), send(1, 0), deliver(3), compact(0), tree(0))
        self.assertEqual(found[-2:], [[1, 1], nodes((4, 1, 0), (5, 2, 0))])


class TheHorizon(unittest.TestCase):
    def test_holds_back_moves_with_a_larger_counter(self):
        # No calls lead here: who has told that it has a move has told a clock that is not behind it.
        # So the clocks are set by hand.
        for clocks, expected in (([3, 3], 3), ([3, 2], 2), ([2, 3], 2), ([3, 1], 1), ([3, 0], 0)):
            with self.subTest(clocks=clocks):
                replica = Replica(0, 2)
                for node in (4, 5, 6):
                    replica.make_move(node, 0, 0)
                replica.confirmed[1] = [3, 0]
                replica.clocks = clocks
                self.assertEqual(len(replica.compactable_moves()), expected)
                self.assertEqual(replica.compact_log(), [expected, expected])


class TheTree(unittest.TestCase):
    def test_is_the_same_before_and_after(self):
        calls = [
            begin(2), move(0, 4, 0, 1), move(0, 5, 4, 2), move(0, 4, 5, 3), move(0, 6, 1, 4), move(1, 7, 0, 5),
            send(0, 1), deliver(0), send(1, 0), deliver(1), move(0, 7, 6, 6), move(0, 6, 0, 7), tree(0)]
        expected = nodes((4, 1, 1), (5, 2, 2), (6, 1, 7), (7, 2, 6))
        self.assertEqual(ask(*calls, compact(0), tree(0), compact(0), tree(0))[12:], [
            expected, [5, 5], expected, [0, 5], expected])

    def test_the_snapshot_is_gone_on_from(self):
        found = ask(
            move(0, 4, 0, 1), move(0, 5, 4, 2), compact(0), move(0, 4, 5, 3), move(0, 5, 0, 4), move(0, 4, 5, 5),
            tree(0), compact(0), tree(0))
        self.assertEqual([found[place][2] for place in (3, 4, 5)], [3, 1, 1])
        self.assertEqual(found[6:], [nodes((5, 1, 4), (4, 2, 5)), [3, 5], nodes((5, 1, 4), (4, 2, 5))])

    def test_asking_for_it_leaves_the_snapshot_alone(self):
        # Node 5 comes later than the move that wants to put node 6 below it.
        found = ask(begin(2), move(1, 5, 0), tree(1), move(0, 6, 5), send(0, 1), deliver(0), tree(1))
        self.assertEqual(found[-1], nodes((5, 1, 0)))

    def test_asking_for_it_leaves_the_labels_of_the_snapshot_alone(self):
        # The move that gives node 4 the label 9 is refused once node 5 has gone below node 4 ahead of it.
        found = ask(
            begin(2), move(0, 4, 0, 1), move(0, 5, 0, 2), send(0, 1), deliver(0), compact(1), move(0, 5, 4, 3),
            move(1, 4, 5, 9), tree(1), send(0, 1), deliver(1), tree(1))
        self.assertEqual(found[5:], [
            [2, 2], [3, 3, 1], [1, 3, 1], nodes((5, 1, 2), (4, 2, 9)), [1, 3], [1], nodes((4, 1, 1), (5, 2, 3))])

    def test_replicas_with_the_same_counts_have_the_same(self):
        calls = [
            begin(2), move(0, 4, 0, 1), send(0, 1), deliver(0), compact(1), move(1, 5, 4, 2), move(0, 5, 4, 3),
            move(0, 4, 1, 4), send(0, 1), send(1, 0), deliver(1), deliver(2)]
        # The moves in order: 4 below the root, 5 below 4 with the label 3, then with the label 2, 4 into the bin.
        for more in ([], [compact(0)], [compact(1)], [compact(0), compact(1)]):
            with self.subTest(more=more):
                self.assertEqual(ask(*calls, *more, tree(0), tree(1))[-2:], [[0], [0]])
                found = ask(*calls, *more, move(0, 4, 0, 9), send(0, 1), deliver(3), tree(0), tree(1))
                self.assertEqual(found[-2:], [nodes((4, 1, 9), (5, 2, 2))] * 2)

    def test_is_the_same_while_moves_arrive_behind_the_compacted_ones(self):
        found = ask(
            begin(2), move(0, 4, 0, 1), send(0, 1), deliver(0), compact(1), move(1, 4, 0, 2), move(0, 4, 0, 3),
            move(0, 4, 0, 4), send(0, 1), deliver(1), tree(1), send(1, 0), deliver(2), tree(0), compact(0), tree(0))
        expected = nodes((4, 1, 4))
        self.assertEqual([found[place] for place in (10, 13, 15)], [expected] * 3)
        self.assertEqual(found[14], [4, 4])


class Errors(unittest.TestCase):
    def test_no_such_replica(self):
        for replica in (2, 3, 6, LARGEST):
            with self.subTest(replica=replica):
                self.assertEqual(last(begin(2), compact(replica)), [-2])
        self.assertEqual(ask(move(0, 4, 0), compact(1), compact(0)), [[1, 1, 1], [-2], [1, 1]])


if __name__ == "__main__":
    unittest.main()
