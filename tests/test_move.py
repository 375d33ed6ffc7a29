import unittest

from helper import LARGEST, ask, begin, compact, deliver, last, move, nodes, send, tree


class NumberAndCounter(unittest.TestCase):
    def test_at_one_replica(self):
        self.assertEqual(ask(*[move(0, 4, 0)] * 3), [[1, 1, 1], [2, 2, 1], [3, 3, 1]])

    def test_each_replica_counts_for_itself(self):
        found = ask(begin(2), move(0, 4, 0), move(0, 4, 0), move(1, 4, 0))
        self.assertEqual(found[1:], [[1, 1, 1], [2, 2, 1], [1, 1, 1]])

    def test_after_a_delivery_the_counter_goes_on_from_the_larger_clock(self):
        three = [move(0, 4, 0)] * 3
        self.assertEqual(last(begin(2), *three, send(0, 1), deliver(0), move(1, 5, 4)), [1, 4, 1])
        self.assertEqual(
            last(begin(2), *three, move(1, 5, 0), send(0, 1), deliver(0), move(1, 5, 4)), [2, 4, 1])

    def test_a_smaller_clock_does_not_turn_the_own_one_back(self):
        found = last(begin(2), move(0, 4, 0), *[move(1, 5, 0)] * 5, send(0, 1), deliver(0), move(1, 5, 4))
        self.assertEqual(found, [6, 6, 1])

    def test_a_message_that_was_not_delivered_does_not_count(self):
        self.assertEqual(last(begin(2), move(0, 4, 0), send(0, 1), move(1, 4, 0)), [1, 1, 1])

    def test_the_number_goes_on_after_compact(self):
        self.assertEqual(last(move(0, 4, 0), move(0, 5, 0), compact(0), move(0, 6, 5)), [3, 3, 1])


class Outcomes(unittest.TestCase):
    def test_below_the_root_and_below_the_bin(self):
        found = ask(move(0, 4, 0, 8), move(0, 5, 1, 9), tree(0), move(0, 4, 1, 7), move(0, 5, 0, 6), tree(0))
        self.assertEqual(found, [
            [1, 1, 1], [2, 2, 1], nodes((4, 1, 8)), [3, 3, 1], [4, 4, 1], nodes((5, 1, 6))])

    def test_no_such_parent_changes_nothing(self):
        found = ask(move(0, 4, 9, 8), tree(0), move(0, 5, 4), move(0, 4, 0, 7), move(0, 4, 9, 6), tree(0))
        self.assertEqual(found, [[1, 1, 2], [0], [2, 2, 2], [3, 3, 1], [4, 4, 2], nodes((4, 1, 7))])

    def test_into_itself_changes_nothing(self):
        found = ask(
            move(0, 4, 0, 1), move(0, 5, 4, 2), move(0, 6, 5, 3),
            move(0, 4, 4, 9), move(0, 4, 5, 9), move(0, 4, 6, 9), move(0, 5, 6, 9), tree(0))
        self.assertEqual([answer[2] for answer in found[:7]], [1, 1, 1, 3, 3, 3, 3])
        self.assertEqual(found[7], nodes((4, 1, 1), (5, 2, 2), (6, 3, 3)))

    def test_into_itself_in_the_bin(self):
        found = ask(move(0, 4, 1), move(0, 5, 4), move(0, 4, 5), move(0, 5, 1), move(0, 4, 5))
        self.assertEqual([answer[2] for answer in found], [1, 1, 3, 1, 1])

    def test_a_missing_parent_comes_before_the_node_itself(self):
        self.assertEqual(ask(move(0, 4, 4)), [[1, 1, 2]])
        self.assertEqual(last(move(0, 4, 0), move(0, 4, 4)), [2, 2, 3])

    def test_the_same_parent_again_gives_a_new_label(self):
        self.assertEqual(last(move(0, 4, 0, 1), move(0, 4, 0, 2), tree(0)), nodes((4, 1, 2)))

    def test_to_the_own_parents_parent_and_beside(self):
        found = ask(move(0, 4, 0), move(0, 5, 4), move(0, 6, 4), move(0, 6, 5), move(0, 6, 0), tree(0))
        self.assertEqual([answer[2] for answer in found[:5]], [1] * 5)
        self.assertEqual(found[5], nodes((4, 1, 0), (5, 2, 0), (6, 1, 0)))

    def test_the_nodes_below_stay_below(self):
        found = ask(
            move(0, 4, 0, 1), move(0, 5, 4, 2), move(0, 6, 5, 3), move(0, 3, 0, 4),
            move(0, 4, 3, 5), tree(0), move(0, 4, 1, 6), tree(0), move(0, 4, 0, 7), tree(0))
        self.assertEqual(found[5], nodes((3, 1, 4), (4, 2, 5), (5, 3, 2), (6, 4, 3)))
        self.assertEqual(found[7], nodes((3, 1, 4)))
        self.assertEqual(found[9], nodes((3, 1, 4), (4, 1, 7), (5, 2, 2), (6, 3, 3)))

    def test_a_parent_in_the_bin_exists(self):
        self.assertEqual(last(move(0, 4, 1), move(0, 5, 4)), [2, 2, 1])

    def test_the_tree_that_the_replica_had_before_is_its_own(self):
        found = ask(begin(2), move(0, 4, 0), move(1, 5, 4), move(0, 5, 4))
        self.assertEqual(found[1:], [[1, 1, 1], [1, 1, 2], [2, 2, 1]])


class OrderOfTimestamps(unittest.TestCase):
    def test_equal_counters_go_by_the_replica(self):
        exchange = [send(0, 1), send(1, 0), deliver(0), deliver(1), tree(0), tree(1)]
        for first, second in ((0, 1), (1, 0)):
            calls = [begin(2), move(first, 4, 0, 10 + first), move(second, 4, 0, 10 + second)]
            with self.subTest(first=first):
                self.assertEqual(ask(*calls, *exchange)[-2:], [nodes((4, 1, 11))] * 2)

    def test_the_counter_goes_before_the_replica(self):
        found = ask(
            begin(2), move(0, 5, 0), move(0, 4, 0, 20), move(1, 4, 0, 30),
            send(0, 1), send(1, 0), deliver(0), deliver(1), tree(0), tree(1))
        self.assertEqual(found[-2:], [nodes((4, 1, 20), (5, 1, 0))] * 2)

    def test_counters_of_two_digits(self):
        found = ask(
            begin(2), *[move(0, 4, 0, label) for label in range(1, 11)], *[move(1, 4, 0, 50)] * 9,
            send(0, 1), send(1, 0), deliver(0), deliver(1), tree(0), tree(1))
        self.assertEqual(found[-2:], [nodes((4, 1, 10))] * 2)

    def test_outcome_2_may_become_another_one(self):
        found = ask(
            begin(2), move(1, 5, 4, 2), tree(1), move(0, 4, 0, 1), send(0, 1), deliver(0), tree(1))
        self.assertEqual(found[1:3], [[1, 1, 2], [0]])
        self.assertEqual(found[-1], nodes((4, 1, 1), (5, 2, 2)))

    def test_outcome_3_may_become_another_one(self):
        # Replica 0 takes node 5 out of node 4 ahead of the move that replica 1 refused.
        found = ask(
            begin(2), move(0, 4, 0, 1), move(0, 5, 4, 2), send(0, 1), deliver(0),
            move(1, 4, 5, 3), tree(1), move(0, 5, 0, 4), send(0, 1), deliver(1), tree(1))
        self.assertEqual(found[5:7], [[1, 3, 3], nodes((4, 1, 1), (5, 2, 2))])
        self.assertEqual(found[-1], nodes((5, 1, 4), (4, 2, 3)))

    def test_outcome_1_may_become_3(self):
        found = ask(
            begin(2), move(0, 4, 0, 1), move(0, 5, 0, 2), send(0, 1), deliver(0),
            move(1, 4, 5, 3), tree(1), move(0, 5, 4, 4), send(0, 1), deliver(1), tree(1))
        self.assertEqual(found[5:7], [[1, 3, 1], nodes((5, 1, 2), (4, 2, 3))])
        self.assertEqual(found[-1], nodes((4, 1, 1), (5, 2, 4)))


class ARefusedOutcomeIsAMove(unittest.TestCase):
    def test_it_is_sent_counted_and_compacted(self):
        found = ask(
            begin(2), move(0, 4, 9), move(0, 4, 0), move(0, 4, 4), send(0, 1), deliver(0), compact(1), tree(1))
        self.assertEqual(found[4:], [[0, 3], [3], [3, 3], nodes((4, 1, 0))])

    def test_it_counts_to_the_80(self):
        self.assertEqual(ask(*[move(0, 4, 9)] * 81)[-2:], [[80, 80, 2], [-5]])


class Errors(unittest.TestCase):
    def test_node(self):
        for node in (0, 1, 64, 65, 2 ** 32, LARGEST):
            with self.subTest(node=node):
                self.assertEqual(ask(move(0, node, 0)), [[-1]])
        for node in (2, 3, 62, 63):
            with self.subTest(node=node):
                self.assertEqual(ask(move(0, node, 0), tree(0)), [[1, 1, 1], nodes((node, 1, 0))])

    def test_parent(self):
        for parent in (64, 65, 2 ** 32, LARGEST):
            with self.subTest(parent=parent):
                self.assertEqual(ask(move(0, 2, parent)), [[-1]])
        self.assertEqual(ask(move(0, 2, 63), move(0, 63, 0), move(0, 2, 63)), [[1, 1, 2], [2, 2, 1], [3, 3, 1]])

    def test_label(self):
        for label in (1000000001, 2 ** 32, LARGEST):
            with self.subTest(label=label):
                self.assertEqual(ask(move(0, 2, 0, label)), [[-1]])
        for label in (0, 1, 999999999, 1000000000):
            with self.subTest(label=label):
                self.assertEqual(ask(move(0, 2, 0, label), tree(0)), [[1, 1, 1], nodes((2, 1, label))])

    def test_replica(self):
        for replica in (3, 4, 6, LARGEST):
            with self.subTest(replica=replica):
                self.assertEqual(ask(begin(3), move(2, 4, 0), move(replica, 4, 0))[1:], [[1, 1, 1], [-2]])

    def test_a_missing_replica_comes_first(self):
        for call in (move(1, 0, 0), move(1, 2, 64), move(1, 2, 0, 1000000001), move(1, 64, 64, LARGEST)):
            with self.subTest(call=call):
                self.assertEqual(ask(call), [[-2]])

    def test_a_range_comes_before_too_many(self):
        full = [move(0, 2, 0)] * 80
        found = ask(
            *full, move(1, 2, 0), move(1, 0, 0), move(0, 0, 0), move(0, 2, 64), move(0, 2, 0, 1000000001),
            move(0, 2, 0), move(0, 2, 2), move(0, 2, 9))
        self.assertEqual(found[79:], [[80, 80, 1], [-2], [-2], [-1], [-1], [-1], [-5], [-5], [-5]])

    def test_80_moves_at_all_replicas_together(self):
        calls = [begin(3)] + [move(0, 2, 0), move(1, 3, 0)] * 39 + [move(2, 4, 0)]
        found = ask(*calls, move(1, 3, 0), move(0, 2, 0), move(1, 3, 0), move(2, 4, 0))
        self.assertEqual(found[-5:], [[1, 1, 1], [40, 40, 1], [-5], [-5], [-5]])

    def test_compacted_moves_count_to_the_80(self):
        found = ask(*[move(0, 2, 0)] * 80, compact(0), move(0, 2, 0))
        self.assertEqual(found[-2:], [[80, 80], [-5]])

    def test_errors_do_not_count_to_the_80(self):
        wrong = [move(0, 0, 0), move(1, 2, 0), move(0, 2, 64)] * 20
        self.assertEqual(ask(*wrong, *[move(0, 2, 0)] * 81)[-2:], [[80, 80, 1], [-5]])

    def test_received_moves_do_not_count_twice(self):
        calls = [begin(2)] + [move(0, 2, 0)] * 60 + [send(0, 1), deliver(0)] + [move(1, 2, 0)] * 21
        self.assertEqual(ask(*calls)[-2:], [[20, 80, 1], [-5]])

    def test_too_many_changes_nothing(self):
        calls = [begin(2)] + [move(0, 2, 0, 7)] * 80
        found = ask(*calls, move(0, 2, 1, 8), tree(0), send(0, 1), move(1, 2, 0, 8), tree(1), deliver(0), compact(1))
        self.assertEqual(found[81:], [[-5], nodes((2, 1, 7)), [0, 80], [-5], [0], [80], [80, 80]])


if __name__ == "__main__":
    unittest.main()
