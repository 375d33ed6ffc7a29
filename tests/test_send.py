import unittest

from helper import LARGEST, ask, begin, compact, deliver, last, move, nodes, send, tree


class NumberOfTheMessage(unittest.TestCase):
    def test_over_all_messages(self):
        found = ask(begin(3), send(0, 1), send(2, 0), send(0, 1), send(1, 2))
        self.assertEqual(found[1:], [[0, 0], [1, 0], [2, 0], [3, 0]])

    def test_deliveries_and_errors_take_no_number(self):
        found = ask(begin(2), send(0, 0), send(0, 1), deliver(0), send(0, 2), deliver(7), send(1, 0))
        self.assertEqual(found[1:], [[-2], [0, 0], [0], [-2], [-2], [1, 0]])


class WhichMoves(unittest.TestCase):
    def test_those_that_the_receiver_is_not_known_to_have(self):
        found = ask(
            begin(2), move(0, 4, 0), move(0, 5, 4), send(0, 1), send(0, 1), deliver(0), send(0, 1),
            send(1, 0), deliver(3), send(0, 1), move(0, 6, 5), send(0, 1))
        self.assertEqual(found[3:], [
            [0, 2], [1, 2], [2], [2, 2], [3, 0], [0], [4, 0], [3, 3, 1], [5, 1]])

    def test_each_receiver_has_its_own_confirmed_counts(self):
        found = ask(
            begin(3), move(0, 4, 0), move(0, 5, 4), send(0, 1), deliver(0), send(1, 0), deliver(1),
            send(0, 1), send(0, 2))
        self.assertEqual(found[-2:], [[2, 0], [3, 2]])

    def test_moves_of_a_third_replica_are_handed_on(self):
        found = ask(
            begin(3), move(0, 4, 0, 1), send(0, 1), deliver(0), move(1, 5, 4, 2), send(1, 2), deliver(1), tree(2),
            send(1, 0), send(2, 0))
        self.assertEqual(found[5:], [[1, 2], [2], nodes((4, 1, 1), (5, 2, 2)), [2, 1], [3, 2]])

    def test_a_count_holds_for_the_replica_that_made_the_move(self):
        found = ask(
            begin(2), move(0, 4, 0), move(0, 4, 0), send(0, 1), deliver(0), move(1, 5, 0), move(1, 5, 4), send(1, 0))
        self.assertEqual(found[-1], [1, 2])

    def test_a_move_in_the_log_that_is_confirmed_for_the_receiver_is_left_out(self):
        # Replica 0 knows that replica 1 has the first of its moves; its log holds both.
        found = ask(
            begin(3), move(0, 4, 0), send(0, 1), deliver(0), send(1, 0), deliver(1), move(0, 5, 4),
            compact(0), send(0, 1), send(0, 2), deliver(2), tree(1))
        self.assertEqual(found[-5:], [[0, 0], [2, 1], [3, 2], [1], nodes((4, 1, 0), (5, 2, 0))])

    def test_compacted_moves_are_left_out(self):
        found = ask(
            begin(2), move(0, 4, 0), send(0, 1), deliver(0), send(1, 0), deliver(1), compact(0), compact(1),
            move(0, 5, 4), send(0, 1), send(1, 0), deliver(2), tree(1))
        self.assertEqual(found[6:], [
            [1, 1], [1, 1], [2, 2, 1], [2, 1], [3, 0], [1], nodes((4, 1, 0), (5, 2, 0))])

    def test_sending_changes_neither_side(self):
        found = ask(begin(2), move(0, 4, 0), send(0, 1), tree(1), compact(1), compact(0), send(1, 0), move(1, 5, 0))
        self.assertEqual(found[2:], [[0, 1], [0], [0, 0], [0, 0], [1, 0], [1, 1, 1]])


class Errors(unittest.TestCase):
    def test_to_itself(self):
        for replica in range(3):
            with self.subTest(replica=replica):
                self.assertEqual(last(begin(3), send(replica, replica)), [-2])

    def test_replicas_that_do_not_exist(self):
        for sender, receiver in (
                (0, 3), (3, 0), (3, 4), (3, 3), (0, 6), (6, 0), (0, LARGEST), (LARGEST, 0), (LARGEST, LARGEST)):
            with self.subTest(sender=sender, receiver=receiver):
                self.assertEqual(ask(begin(3), send(sender, receiver), send(0, 2))[1:], [[-2], [0, 0]])

    def test_one_replica_has_nobody_to_send_to(self):
        self.assertEqual(ask(send(0, 0), send(0, 1), send(1, 0)), [[-2], [-2], [-2]])

    def test_the_200th_and_the_201st(self):
        calls = [begin(2)] + [send(0, 1), send(1, 0)] * 100
        found = ask(*calls, send(0, 1), send(1, 0), deliver(199), deliver(200))
        self.assertEqual(found[-5:], [[199, 0], [-5], [-5], [0], [-2]])

    def test_a_missing_replica_comes_before_too_many(self):
        calls = [begin(2)] + [send(0, 1)] * 200
        found = ask(*calls, send(0, 0), send(0, 2), send(2, 0), send(0, 1))
        self.assertEqual(found[-4:], [[-2], [-2], [-2], [-5]])

    def test_errors_do_not_count_to_the_200(self):
        calls = [begin(2)] + [send(0, 0)] * 20 + [send(0, 1)] * 200
        self.assertEqual(ask(*calls, send(0, 1))[-2:], [[199, 0], [-5]])


if __name__ == "__main__":
    unittest.main()
