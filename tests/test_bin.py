import unittest

from helper import LARGEST, ask, begin, compact, deliver, in_bin, last, move, nodes, send, tree


class Nodes(unittest.TestCase):
    def test_none(self):
        self.assertEqual(ask(in_bin(0), begin(6), in_bin(0), in_bin(5)), [[0], [0], [0], [0]])

    def test_only_nodes_below_the_root(self):
        self.assertEqual(last(move(0, 4, 0), move(0, 5, 4), in_bin(0)), [0])

    def test_straight_below_and_below_those(self):
        found = ask(move(0, 4, 1, 40), in_bin(0), move(0, 5, 4, 50), in_bin(0), move(0, 6, 5, 60), in_bin(0), tree(0))
        self.assertEqual(found[1::2], [
            nodes((4, 1, 40)), nodes((4, 1, 40), (5, 2, 50)), nodes((4, 1, 40), (5, 2, 50), (6, 3, 60))])
        self.assertEqual(found[-1], [0])

    def test_children_in_ascending_order(self):
        found = last(move(0, 9, 1, 1), move(0, 63, 1, 2), move(0, 2, 1, 3), move(0, 10, 1, 4), in_bin(0))
        self.assertEqual(found, nodes((2, 1, 3), (9, 1, 1), (10, 1, 4), (63, 1, 2)))

    def test_each_child_is_followed_by_all_nodes_below_it(self):
        found = last(
            move(0, 5, 1, 50), move(0, 3, 1, 30), move(0, 8, 5, 80), move(0, 4, 5, 40), move(0, 2, 8, 20),
            move(0, 9, 3, 90), move(0, 7, 3, 70), move(0, 6, 7, 60), in_bin(0))
        self.assertEqual(found, nodes(
            (3, 1, 30), (7, 2, 70), (6, 3, 60), (9, 2, 90), (5, 1, 50), (4, 2, 40), (8, 2, 80), (2, 3, 20)))

    def test_the_smallest_and_the_largest_label(self):
        self.assertEqual(last(move(0, 4, 1, 0), move(0, 5, 1, 1000000000), in_bin(0)),
                         nodes((4, 1, 0), (5, 1, 1000000000)))

    def test_all_62(self):
        calls = [move(0, node, 1, node + 100) for node in range(63, 1, -1)]
        self.assertEqual(last(*calls, in_bin(0)), nodes(*[(node, 1, node + 100) for node in range(2, 64)]))

    def test_a_chain_of_62(self):
        calls = [move(0, 2, 1, 2)] + [move(0, node, node - 1, node) for node in range(3, 64)]
        chain = nodes(*[(node, node - 1, node) for node in range(2, 64)])
        self.assertEqual(ask(*calls, in_bin(0), tree(0), move(0, 2, 0, 2), in_bin(0), tree(0))[62:],
                         [chain, [0], [63, 63, 1], [0], chain])

    def test_each_replica_has_its_own(self):
        found = ask(begin(3), move(0, 4, 1, 1), move(1, 5, 1, 2), in_bin(0), in_bin(1), in_bin(2))
        self.assertEqual(found[3:], [nodes((4, 1, 1)), nodes((5, 1, 2)), [0]])


class BetweenBinAndRoot(unittest.TestCase):
    CALLS = [
        move(0, 4, 0, 1), move(0, 5, 4, 2), move(0, 7, 5, 3), move(0, 6, 4, 4), move(0, 3, 0, 5), move(0, 8, 1, 6),
        move(0, 2, 8, 7)]
    BELOW_ROOT = nodes((3, 1, 5), (4, 1, 1), (5, 2, 2), (7, 3, 3), (6, 2, 4))
    BELOW_BIN = nodes((8, 1, 6), (2, 2, 7))

    def test_each_node_stands_in_one_of_them(self):
        self.assertEqual(ask(*self.CALLS, tree(0), in_bin(0))[7:], [self.BELOW_ROOT, self.BELOW_BIN])

    def test_a_node_with_nodes_below_it_goes_in_and_out_again(self):
        found = ask(
            *self.CALLS, move(0, 4, 1, 9), tree(0), in_bin(0), move(0, 4, 0, 1), tree(0), in_bin(0))[8:]
        self.assertEqual(found, [
            nodes((3, 1, 5)), nodes((4, 1, 9), (5, 2, 2), (7, 3, 3), (6, 2, 4), (8, 1, 6), (2, 2, 7)),
            [9, 9, 1], self.BELOW_ROOT, self.BELOW_BIN])

    def test_deeper_into_the_bin_and_deeper_out_of_it(self):
        found = ask(
            *self.CALLS, move(0, 5, 2, 9), tree(0), in_bin(0), move(0, 8, 6, 9), tree(0), in_bin(0))[8:]
        self.assertEqual(found, [
            nodes((3, 1, 5), (4, 1, 1), (6, 2, 4)), nodes((8, 1, 6), (2, 2, 7), (5, 3, 9), (7, 4, 3)),
            [9, 9, 1],
            nodes((3, 1, 5), (4, 1, 1), (6, 2, 4), (8, 3, 9), (2, 4, 7), (5, 5, 9), (7, 6, 3)), [0]])

    def test_a_part_of_what_is_in_the_bin_goes_out(self):
        found = ask(*self.CALLS, move(0, 2, 3, 9), tree(0), in_bin(0))[8:]
        self.assertEqual(found, [
            nodes((3, 1, 5), (2, 2, 9), (4, 1, 1), (5, 2, 2), (7, 3, 3), (6, 2, 4)), nodes((8, 1, 6))])

    def test_a_move_that_is_refused_takes_nothing_out(self):
        found = ask(*self.CALLS, move(0, 8, 2, 9), move(0, 8, 60, 9), tree(0), in_bin(0))[7:]
        self.assertEqual(found, [[8, 8, 3], [9, 9, 2], self.BELOW_ROOT, self.BELOW_BIN])

    def test_after_compact_and_at_another_replica(self):
        found = ask(begin(2), *self.CALLS, send(0, 1), deliver(0), compact(1), in_bin(1), tree(1), in_bin(0))
        self.assertEqual(found[-4:], [[7, 7], self.BELOW_BIN, self.BELOW_ROOT, self.BELOW_BIN])

    def test_an_earlier_move_that_arrives_late_puts_a_node_in(self):
        found = ask(
            begin(2), move(0, 4, 1, 1), move(1, 4, 0, 2), move(1, 5, 4, 3), in_bin(1), send(0, 1), deliver(0),
            in_bin(1), tree(1), send(1, 0), deliver(1), in_bin(0), move(0, 4, 1, 4), send(0, 1), deliver(2), in_bin(1))
        self.assertEqual([found[place] for place in (4, 7, 8, 11, 15)], [
            [0], [0], nodes((4, 1, 2), (5, 2, 3)), [0], nodes((4, 1, 4), (5, 2, 3))])


class Errors(unittest.TestCase):
    def test_no_such_replica(self):
        self.assertEqual(ask(in_bin(1), in_bin(LARGEST), in_bin(0)), [[-2], [-2], [0]])
        for replica in (4, 5, 6, LARGEST):
            with self.subTest(replica=replica):
                self.assertEqual(last(begin(4), move(0, 4, 1), in_bin(replica)), [-2])


if __name__ == "__main__":
    unittest.main()
