import unittest

from helper import LARGEST, ask, begin, compact, deliver, last, move, nodes, send, tree

TWO_MESSAGES = [begin(2), move(0, 4, 0, 1), send(0, 1), move(0, 5, 4, 2), send(0, 1)]
BOTH = nodes((4, 1, 1), (5, 2, 2))


class NewMoves(unittest.TestCase):
    def test_in_order(self):
        found = ask(*TWO_MESSAGES, deliver(0), tree(1), deliver(1), tree(1))
        self.assertEqual(found[5:], [[1], nodes((4, 1, 1)), [1], BOTH])

    def test_in_another_order(self):
        found = ask(*TWO_MESSAGES, deliver(1), tree(1), deliver(0), tree(1))
        self.assertEqual(found[5:], [[2], BOTH, [0], BOTH])

    def test_several_times(self):
        found = ask(*TWO_MESSAGES, deliver(0), deliver(0), deliver(1), deliver(1), deliver(0), tree(1), compact(1))
        self.assertEqual(found[5:], [[1], [0], [1], [0], [0], BOTH, [2, 2]])

    def test_late(self):
        found = ask(*TWO_MESSAGES, *[move(1, 6, 0, 3)] * 3, move(0, 5, 0, 4), compact(0), deliver(0), tree(1))
        self.assertEqual(found[-2:], [[1], nodes((4, 1, 1), (6, 1, 3))])

    def test_without_moves(self):
        self.assertEqual(ask(begin(2), send(0, 1), deliver(0), tree(1))[2:], [[0], [0]])

    def test_moves_that_came_another_way_are_not_new(self):
        found = ask(
            begin(3), move(0, 4, 0), move(0, 5, 0), send(0, 1), send(0, 2), deliver(0), move(1, 6, 0),
            send(1, 2), deliver(2), deliver(1), deliver(2), tree(2))
        self.assertEqual(found[7:], [[2, 3], [3], [0], [0], nodes((4, 1, 0), (5, 1, 0), (6, 1, 0))])

    def test_the_sender_gets_back_only_what_it_has_not(self):
        found = ask(begin(2), move(0, 4, 0), move(1, 5, 0), send(1, 0), send(0, 1), deliver(1), deliver(0), tree(0))
        self.assertEqual(found[5:], [[1], [1], nodes((4, 1, 0), (5, 1, 0))])

    def test_only_the_receiver_gets_it(self):
        found = ask(begin(3), move(0, 4, 0), send(0, 1), deliver(0), tree(2), move(2, 5, 4), tree(1))
        self.assertEqual(found[3:], [[1], [0], [1, 1, 2], nodes((4, 1, 0))])

    def test_a_compacted_move_is_not_new(self):
        found = ask(
            begin(2), move(0, 4, 0, 1), send(0, 1), move(0, 4, 0, 2), send(0, 1), deliver(1), compact(1), deliver(0),
            tree(1), compact(1), deliver(1), tree(1))
        self.assertEqual(found[5:], [[2], [2, 2], [0], nodes((4, 1, 2)), [0, 2], [0], nodes((4, 1, 2))])


class WhatItLeaves(unittest.TestCase):
    def test_the_clock_is_the_larger_one(self):
        self.assertEqual(last(*TWO_MESSAGES, deliver(0), move(1, 6, 0)), [1, 2, 1])
        self.assertEqual(last(*TWO_MESSAGES, deliver(1), move(1, 6, 0)), [1, 3, 1])
        self.assertEqual(last(*TWO_MESSAGES, deliver(1), deliver(0), move(1, 6, 0)), [1, 3, 1])

    def test_counts_go_on_in_the_next_message(self):
        found = ask(*TWO_MESSAGES, deliver(0), send(1, 0), deliver(2), send(0, 1), deliver(3), send(0, 1))
        self.assertEqual(found[5:], [[1], [2, 0], [0], [3, 1], [1], [4, 1]])

    def test_an_older_message_does_not_lower_the_counts(self):
        found = ask(*TWO_MESSAGES, deliver(1), deliver(0), send(1, 0), deliver(2), send(0, 1), deliver(1))
        self.assertEqual(found[5:], [[2], [0], [2, 0], [0], [3, 0], [0]])

    def test_an_older_message_does_not_lower_the_confirmed_counts(self):
        found = ask(
            begin(2), move(0, 4, 0), send(0, 1), deliver(0), send(1, 0), move(0, 5, 0), send(0, 1), deliver(2),
            send(1, 0), deliver(3), send(0, 1), deliver(1), send(0, 1), compact(0))
        self.assertEqual(found[-5:], [[0], [4, 0], [0], [5, 0], [2, 2]])

    def test_an_older_message_does_not_lower_the_reported_clock(self):
        found = ask(*TWO_MESSAGES, deliver(1), deliver(0), compact(1))
        self.assertEqual(found[-1], [2, 2])

    def test_the_receiver_knows_what_the_sender_had(self):
        self.assertEqual(last(*TWO_MESSAGES, deliver(0), compact(1)), [1, 1])
        self.assertEqual(last(*TWO_MESSAGES, deliver(0), compact(0)), [0, 0])

    def test_nothing_is_known_of_replicas_that_a_message_only_came_by(self):
        found = ask(
            begin(3), move(0, 4, 0), send(0, 1), deliver(0), send(1, 2), deliver(1), send(2, 0), compact(2), send(2, 1))
        self.assertEqual(found[-3:], [[2, 1], [0, 0], [3, 0]])

    def test_the_confirmed_counts_are_those_of_the_message(self):
        # Replica 1 had nothing of replica 0 when it sent, so nothing of it is confirmed by that.
        found = ask(
            begin(2), move(0, 4, 0), move(1, 5, 0), send(1, 0), send(0, 1), deliver(1), deliver(0), send(0, 1))
        self.assertEqual(found[-1], [2, 1])


class AMessageHoldsWhatItsSenderHad(unittest.TestCase):
    def test_moves(self):
        found = ask(
            begin(2), move(0, 4, 0, 1), send(0, 1), move(0, 5, 0, 2), move(0, 4, 0, 9), deliver(0), tree(1))
        self.assertEqual(found[-2:], [[1], nodes((4, 1, 1))])

    def test_moves_received_after_it(self):
        found = ask(begin(3), move(2, 4, 0), send(2, 0), send(0, 1), deliver(0), deliver(1), tree(1), send(0, 1))
        self.assertEqual(found[3:], [[1, 0], [1], [0], [0], [2, 1]])

    def test_counts(self):
        found = ask(
            begin(2), move(0, 4, 0, 1), send(0, 1), move(0, 5, 0, 2), move(0, 4, 0, 9), deliver(0),
            send(1, 0), deliver(1), send(0, 1), deliver(2), tree(1))
        self.assertEqual(found[5:], [[1], [1, 0], [0], [2, 2], [2], nodes((4, 1, 9), (5, 1, 2))])

    def test_clock(self):
        found = ask(begin(2), move(0, 4, 0), send(0, 1), *[move(0, 4, 0)] * 5, deliver(0), move(1, 5, 0))
        self.assertEqual(found[-1], [1, 2, 1])

    def test_also_when_the_receiver_has_more_by_then(self):
        found = ask(begin(2), move(0, 4, 0), send(0, 1), *[move(1, 5, 0)] * 3, deliver(0), move(1, 6, 0), send(1, 0))
        self.assertEqual(found[-3:], [[1], [4, 4, 1], [1, 4]])


class Errors(unittest.TestCase):
    def test_no_such_message(self):
        for message in (0, 1, 199, LARGEST):
            with self.subTest(message=message):
                self.assertEqual(ask(begin(2), deliver(message))[1:], [[-2]])

    def test_the_one_behind_the_last(self):
        found = ask(*TWO_MESSAGES, deliver(2), deliver(LARGEST), tree(1), deliver(1))
        self.assertEqual(found[5:], [[-2], [-2], [0], [2]])

    def test_without_begin(self):
        self.assertEqual(ask(deliver(0)), [[-2]])


if __name__ == "__main__":
    unittest.main()
