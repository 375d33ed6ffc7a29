import unittest

from helper import LARGEST, ask, begin, compact, compare, deliver, in_bin, last, move, send, tree


def both_ways(*calls):
    """What compare answers for the replicas 0 and 1, in either order."""
    found = ask(*calls, compare(0, 1), compare(1, 0))
    if found[-2] != found[-1]:
        raise AssertionError(f"{found[-2]} one way, {found[-1]} the other way")
    return found[-1]


class ItSelf(unittest.TestCase):
    def test_is_the_same(self):
        self.assertEqual(last(compare(0, 0)), [1, 1])
        calls = [begin(3), move(0, 4, 0, 1), move(0, 5, 1, 2), move(1, 6, 0, 3), send(0, 1), deliver(0), compact(1)]
        self.assertEqual(ask(*calls, *[compare(replica, replica) for replica in range(3)])[7:], [[1, 1]] * 3)


class SameCounts(unittest.TestCase):
    def test_at_first(self):
        self.assertEqual(both_ways(begin(2)), [1, 1])
        self.assertEqual(last(begin(6), compare(0, 5)), [1, 1])

    def test_after_messages_both_ways(self):
        calls = [
            begin(2), move(0, 4, 0, 1), move(1, 4, 0, 2), move(0, 5, 4, 3), move(1, 5, 1, 4), send(0, 1), send(1, 0),
            deliver(0)]
        self.assertEqual(both_ways(*calls), [0, 0])
        self.assertEqual(both_ways(*calls, deliver(1)), [1, 1])

    def test_one_compacted_and_the_other_not(self):
        calls = [
            begin(2), move(0, 4, 0, 1), move(0, 5, 4, 2), move(0, 4, 5, 3), move(0, 6, 1, 4), send(0, 1), deliver(0)]
        self.assertEqual(both_ways(*calls), [1, 1])
        self.assertEqual(ask(*calls, compact(1), compact(0))[-2:], [[4, 4], [0, 0]])
        self.assertEqual(both_ways(*calls, compact(1)), [1, 1])
        self.assertEqual(both_ways(*calls, send(1, 0), deliver(1), compact(0)), [1, 1])
        self.assertEqual(both_ways(*calls, send(1, 0), deliver(1), compact(0), compact(1)), [1, 1])

    def test_a_message_with_counts_that_was_not_delivered(self):
        self.assertEqual(both_ways(begin(2), move(0, 4, 0), send(0, 1)), [0, 0])

    def test_what_each_knows_of_the_other_does_not_matter(self):
        # Replica 0 has heard of replica 1 and both of replica 2; confirmed counts and clocks differ.
        calls = [begin(3), move(2, 4, 0), send(2, 0), send(2, 1), deliver(0), deliver(1), send(1, 0), deliver(2)]
        self.assertEqual(both_ways(*calls), [1, 1])


class OtherCounts(unittest.TestCase):
    def test_the_same_tree_without_nodes(self):
        for parent in (4, 9):
            with self.subTest(parent=parent):
                self.assertEqual(both_ways(begin(2), move(0, 4, parent)), [0, 1])

    def test_the_same_tree_with_nodes(self):
        self.assertEqual(both_ways(begin(2), move(0, 4, 0, 7), move(1, 4, 0, 7)), [0, 1])
        self.assertEqual(both_ways(begin(2), move(0, 4, 1, 7), move(1, 4, 1, 8), move(1, 4, 1, 7)), [0, 1])

    def test_the_same_tree_in_another_order_of_moves(self):
        calls = [begin(2), move(0, 4, 0, 7), move(0, 5, 4, 8), move(1, 5, 0, 3), move(1, 4, 0, 7)]
        self.assertEqual(both_ways(*calls), [0, 0])
        self.assertEqual(both_ways(*calls, move(1, 5, 4, 8)), [0, 1])

    def test_the_same_number_of_moves_in_all(self):
        # Both have two moves, of different replicas.
        calls = [begin(4), move(2, 4, 0), move(3, 4, 0), send(2, 0), send(3, 1), deliver(0), deliver(1)]
        self.assertEqual(both_ways(*calls, move(0, 5, 0), move(1, 5, 0)), [0, 1])

    def test_one_more_or_less(self):
        calls = [begin(2), move(0, 4, 0), send(0, 1), deliver(0)]
        self.assertEqual(both_ways(*calls, move(0, 4, 0)), [0, 1])
        self.assertEqual(both_ways(*calls, move(1, 4, 0)), [0, 1])


class OtherTrees(unittest.TestCase):
    CALLS = [begin(2), move(0, 4, 0, 1), move(0, 5, 4, 2), move(0, 6, 1, 3), move(0, 7, 6, 4), send(0, 1), deliver(0)]

    def test_a_label_alone(self):
        self.assertEqual(both_ways(*self.CALLS, move(1, 5, 4, 9)), [0, 0])
        self.assertEqual(both_ways(*self.CALLS, move(1, 5, 4, 9), move(1, 5, 4, 2)), [0, 1])

    def test_a_label_in_the_bin_alone(self):
        calls = [*self.CALLS, move(1, 7, 6, 9)]
        self.assertEqual(both_ways(*calls), [0, 0])
        found = ask(*calls, tree(0), tree(1))
        self.assertEqual(found[-1], found[-2])

    def test_a_parent_alone(self):
        self.assertEqual(both_ways(*self.CALLS, move(1, 5, 0, 2)), [0, 0])

    def test_a_parent_in_the_bin_alone(self):
        calls = [*self.CALLS, move(1, 7, 1, 4)]
        self.assertEqual(both_ways(*calls), [0, 0])
        found = ask(*calls, tree(0), tree(1))
        self.assertEqual(found[-1], found[-2])

    def test_a_node_in_the_bin_alone(self):
        for parent in (1, 6, 7):
            with self.subTest(parent=parent):
                calls = [*self.CALLS, move(1, 8, parent, 5)]
                self.assertEqual(both_ways(*calls), [0, 0])
                found = ask(*calls, tree(0), tree(1))
                self.assertEqual(found[-1], found[-2])

    def test_a_node_below_the_root_alone(self):
        for parent in (0, 4, 5):
            with self.subTest(parent=parent):
                calls = [*self.CALLS, move(1, 8, parent, 5)]
                self.assertEqual(both_ways(*calls), [0, 0])
                found = ask(*calls, in_bin(0), in_bin(1))
                self.assertEqual(found[-1], found[-2])

    def test_below_the_root_here_and_below_the_bin_there(self):
        self.assertEqual(both_ways(begin(2), move(0, 4, 0, 1), move(1, 4, 1, 1)), [0, 0])

    def test_two_nodes_with_each_others_parents(self):
        calls = [begin(2)]
        for replica, parents in ((0, (4, 5)), (1, (5, 4))):
            calls += [move(replica, 4, 0, 1), move(replica, 5, 0, 1)]
            calls += [move(replica, 6, parents[0], 2), move(replica, 7, parents[1], 2)]
        self.assertEqual(both_ways(*calls), [0, 0])

    def test_the_same_depths_and_labels_below_another_parent(self):
        calls = [begin(2)]
        for replica in (0, 1):
            calls += [move(replica, 4, 0, 1), move(replica, 6, 0, 1), move(replica, 7, 4 + 2 * replica, 2)]
        self.assertEqual(both_ways(*calls), [0, 0])


class Errors(unittest.TestCase):
    def test_no_such_replica_in_the_first_place(self):
        for replica in (3, 4, 6, LARGEST):
            with self.subTest(replica=replica):
                self.assertEqual(ask(begin(3), compare(replica, 0), compare(0, 2))[1:], [[-2], [1, 1]])

    def test_no_such_replica_in_the_second_place(self):
        for replica in (3, 4, 6, LARGEST):
            with self.subTest(replica=replica):
                self.assertEqual(ask(begin(3), compare(0, replica), compare(2, 0))[1:], [[-2], [1, 1]])

    def test_no_such_replica_in_both_places(self):
        self.assertEqual(ask(compare(1, 1), compare(LARGEST, LARGEST), compare(0, 1), compare(1, 0), compare(0, 0)),
                         [[-2], [-2], [-2], [-2], [1, 1]])


if __name__ == "__main__":
    unittest.main()
