import unittest

from helper import LARGEST, ask, begin, compact, deliver, last, move, nodes, send, tree


class Nodes(unittest.TestCase):
    def test_none(self):
        self.assertEqual(ask(tree(0), begin(6), tree(0), tree(5)), [[0], [0], [0], [0]])

    def test_only_nodes_in_the_bin(self):
        self.assertEqual(last(move(0, 4, 1), move(0, 5, 4), tree(0)), [0])

    def test_children_in_ascending_order(self):
        found = last(move(0, 9, 0, 1), move(0, 63, 0, 2), move(0, 2, 0, 3), move(0, 10, 0, 4), tree(0))
        self.assertEqual(found, nodes((2, 1, 3), (9, 1, 1), (10, 1, 4), (63, 1, 2)))

    def test_each_child_is_followed_by_all_nodes_below_it(self):
        found = last(
            move(0, 5, 0, 50), move(0, 3, 0, 30), move(0, 8, 5, 80), move(0, 4, 5, 40), move(0, 2, 8, 20),
            move(0, 9, 3, 90), move(0, 7, 3, 70), move(0, 6, 7, 60), tree(0))
        self.assertEqual(found, nodes(
            (3, 1, 30), (7, 2, 70), (6, 3, 60), (9, 2, 90), (5, 1, 50), (4, 2, 40), (8, 2, 80), (2, 3, 20)))

    def test_nodes_in_the_bin_are_left_out(self):
        found = last(
            move(0, 5, 0, 1), move(0, 4, 5, 2), move(0, 3, 0, 3), move(0, 6, 3, 4), move(0, 3, 1, 5), move(0, 7, 6, 6),
            tree(0))
        self.assertEqual(found, nodes((5, 1, 1), (4, 2, 2)))

    def test_the_smallest_and_the_largest_label(self):
        self.assertEqual(last(move(0, 4, 0, 0), move(0, 5, 0, 1000000000), tree(0)),
                         nodes((4, 1, 0), (5, 1, 1000000000)))

    def test_every_node_below_the_root(self):
        calls = [move(0, node, 0, node + 100) for node in range(63, 1, -1)]
        self.assertEqual(last(*calls, tree(0)), nodes(*[(node, 1, node + 100) for node in range(2, 64)]))

    def test_each_replica_has_its_own(self):
        found = ask(begin(3), move(0, 4, 0, 1), move(1, 5, 0, 2), tree(0), tree(1), tree(2))
        self.assertEqual(found[3:], [nodes((4, 1, 1)), nodes((5, 1, 2)), [0]])


class AChainOf62Nodes(unittest.TestCase):
    def test_downwards(self):
        calls = [move(0, 2, 0, 2)] + [move(0, node, node - 1, node) for node in range(3, 64)]
        self.assertEqual(last(*calls, tree(0)), nodes(*[(node, node - 1, node) for node in range(2, 64)]))

    def test_upwards(self):
        calls = [move(0, 63, 0, 63)] + [move(0, node, node + 1, node) for node in range(62, 1, -1)]
        self.assertEqual(last(*calls, tree(0)), nodes(*[(node, 64 - node, node) for node in range(63, 1, -1)]))

    def test_its_first_node_can_not_go_below_its_last(self):
        calls = [move(0, 2, 0)] + [move(0, node, node - 1) for node in range(3, 64)]
        found = ask(*calls, move(0, 2, 63), move(0, 2, 1), tree(0), compact(0), tree(0))
        self.assertEqual(found[62:], [[63, 63, 3], [64, 64, 1], [0], [64, 64], [0]])

    def test_at_another_replica(self):
        calls = [begin(2), move(0, 2, 0)] + [move(0, node, node - 1) for node in range(3, 64)]
        found = last(*calls, send(0, 1), deliver(0), tree(1))
        self.assertEqual(found, nodes(*[(node, node - 1, 0) for node in range(2, 64)]))


class Errors(unittest.TestCase):
    def test_no_such_replica(self):
        self.assertEqual(ask(tree(1), tree(LARGEST), tree(0)), [[-2], [-2], [0]])
        for replica in (4, 5, 6, LARGEST):
            with self.subTest(replica=replica):
                self.assertEqual(last(begin(4), tree(replica)), [-2])


if __name__ == "__main__":
    unittest.main()
