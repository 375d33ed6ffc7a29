import unittest

from helper import LARGEST, ask, begin, compact, deliver, last, move, nodes, send, tree


class NumberOfReplicas(unittest.TestCase):
    def test_each_number_from_1_to_6(self):
        for replicas in range(1, 7):
            with self.subTest(replicas=replicas):
                found = ask(begin(replicas), tree(replicas - 1), tree(replicas))
                self.assertEqual(found, [[0], [0], [-2]])

    def test_outside_the_range(self):
        for replicas in (0, 7, 8, 2 ** 32, 2 ** 63, LARGEST):
            with self.subTest(replicas=replicas):
                self.assertEqual(ask(begin(replicas)), [[-1]])

    def test_none_at_all_is_one_replica(self):
        found = ask(move(0, 5, 0, 3), tree(0), tree(1), move(1, 5, 0), send(0, 1), compact(1), compact(0))
        self.assertEqual(found, [[1, 1, 1], nodes((5, 1, 3)), [-2], [-2], [-2], [-2], [1, 1]])

    def test_fewer_replicas_than_before(self):
        found = ask(begin(4), begin(2), tree(1), tree(2), send(0, 2), send(0, 1))
        self.assertEqual(found, [[0], [0], [0], [-2], [-2], [0, 0]])


class AnError(unittest.TestCase):
    def test_changes_nothing(self):
        for replicas in (0, 7, LARGEST):
            with self.subTest(replicas=replicas):
                found = ask(
                    begin(2), move(0, 5, 0, 3), send(0, 1), begin(replicas),
                    tree(0), tree(1), tree(2), deliver(0), tree(1), move(0, 6, 5, 4), send(0, 1), compact(1))
                self.assertEqual(found[3:], [
                    [-1], nodes((5, 1, 3)), [0], [-2], [1], nodes((5, 1, 3)), [2, 2, 1], [1, 2], [1, 1]])

    def test_before_any_begin_changes_nothing(self):
        found = ask(move(0, 5, 0, 3), begin(7), tree(0), move(0, 5, 0, 4))
        self.assertEqual(found, [[1, 1, 1], [-1], nodes((5, 1, 3)), [2, 2, 1]])


class Anew(unittest.TestCase):
    def test_moves_messages_and_trees_are_gone(self):
        found = ask(
            begin(2), move(0, 5, 0, 3), move(0, 6, 5, 3), send(0, 1), send(0, 1), deliver(0), compact(1),
            begin(2), tree(0), tree(1), deliver(0), compact(1), move(0, 6, 5), move(0, 5, 0), send(0, 1))
        self.assertEqual(found[7:], [[0], [0], [0], [-2], [0, 0], [1, 1, 2], [2, 2, 1], [0, 2]])

    def test_counts_clocks_and_confirmed_counts_are_gone(self):
        found = ask(
            begin(2), move(0, 5, 0), move(0, 6, 0), send(0, 1), deliver(0), send(1, 0), deliver(1), compact(0),
            begin(2), move(1, 7, 0), move(0, 8, 0), send(0, 1), compact(0), deliver(0), tree(1))
        self.assertEqual(found[8:], [
            [0], [1, 1, 1], [1, 1, 1], [0, 1], [0, 0], [1], nodes((7, 1, 0), (8, 1, 0))])

    def test_again_80_moves(self):
        calls = [move(0, 2, 0)] * 80 + [begin(1)] + [move(0, 2, 0)] * 80
        self.assertEqual(last(*calls), [80, 80, 1])
        self.assertEqual(last(*calls, move(0, 2, 0)), [-5])

    def test_again_200_messages(self):
        calls = [begin(2)] + [send(0, 1)] * 200 + [begin(2)]
        self.assertEqual(last(*calls, send(0, 1)), [0, 0])
        self.assertEqual(last(*calls, deliver(0)), [-2])


if __name__ == "__main__":
    unittest.main()
