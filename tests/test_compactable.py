import itertools
import unittest

from helper import LARGEST, ask, begin, compact, compactable, deliver, last, move, send


class OneReplica(unittest.TestCase):
    def test_every_move(self):
        found = ask(compactable(0), move(0, 4, 0), compactable(0), move(0, 5, 9), move(0, 4, 4), compactable(0))
        self.assertEqual([found[place] for place in (0, 2, 5)], [[0], [1], [3]])

    def test_none_directly_after_compact(self):
        found = ask(
            move(0, 4, 0), move(0, 5, 0), compactable(0), compact(0), compactable(0), move(0, 6, 0), compactable(0),
            compact(0), compactable(0))
        self.assertEqual(found[2:], [[2], [2, 2], [0], [3, 3, 1], [1], [1, 3], [0]])


class SeveralReplicas(unittest.TestCase):
    def test_the_receiver_first_and_the_sender_after_an_answer(self):
        found = ask(
            begin(2), move(0, 4, 0), move(0, 5, 4), compactable(0), compactable(1), send(0, 1), compactable(0),
            deliver(0), compactable(0), compactable(1), send(1, 0), compactable(0), deliver(1), compactable(0),
            compact(0), compactable(0), compactable(1))
        self.assertEqual([found[place] for place in (3, 4, 6, 8, 9, 11, 13, 14, 15, 16)], [
            [0], [0], [0], [0], [2], [0], [2], [2, 2], [0], [2]])

    def test_only_what_is_confirmed(self):
        found = ask(
            begin(2), move(0, 4, 0), send(0, 1), deliver(0), send(1, 0), move(0, 5, 4), move(0, 6, 5), deliver(1),
            compactable(0), compact(0), compactable(0))
        self.assertEqual(found[-3:], [[1], [1, 1], [0]])

    def test_a_confirmed_move_behind_one_that_is_not(self):
        # Replica 0 has both moves of replica 1, which lacks the one of replica 0: that one stands first.
        found = ask(
            begin(2), move(0, 4, 0), move(1, 5, 0), move(1, 5, 0), send(1, 0), deliver(0), compactable(0), compact(0),
            send(0, 1), deliver(1), compactable(1), send(1, 0), deliver(2), compactable(0), compact(0), compactable(0))
        self.assertEqual([found[place] for place in (6, 7, 10, 13, 14, 15)], [[0], [0, 0], [3], [3], [3, 3], [0]])

    def test_a_confirmed_move_on_either_side_of_one_that_is_not(self):
        found = ask(
            begin(2), move(1, 5, 0), send(1, 0), deliver(0), move(0, 4, 0), move(1, 6, 0), send(1, 0), deliver(1),
            compactable(0), compact(0), compactable(0))
        self.assertEqual(found[-4:], [[1], [1], [1, 1], [0]])

    def test_all_others_must_have_told(self):
        for order in itertools.permutations((1, 2, 3)):
            with self.subTest(order=order):
                calls = [begin(4), move(0, 4, 0)]
                for step, replica in enumerate(order):
                    calls += [send(0, replica), deliver(2 * step), send(replica, 0), deliver(2 * step + 1)]
                    calls.append(compactable(0))
                self.assertEqual(ask(*calls)[6::5], [[0], [0], [1]])

    def test_a_third_replica_does_not_confirm_for_another(self):
        # Replica 1 tells replica 2 what replica 0 told it.
        found = ask(
            begin(3), move(0, 4, 0), send(0, 1), deliver(0), send(1, 2), deliver(1), compactable(2), send(0, 2),
            deliver(2), compactable(2), compactable(1), compactable(0))
        self.assertEqual([found[place] for place in (6, 9, 10, 11)], [[0], [1], [0], [0]])

    def test_a_late_message_takes_nothing_back(self):
        found = ask(
            begin(2), move(0, 4, 0), send(1, 0), send(0, 1), deliver(1), send(1, 0), deliver(2), compactable(0),
            deliver(0), compactable(0))
        self.assertEqual(found[-3:], [[1], [0], [1]])


class Errors(unittest.TestCase):
    def test_no_such_replica(self):
        self.assertEqual(ask(compactable(1), compactable(LARGEST), compactable(0)), [[-2], [-2], [0]])
        for replica in (4, 5, 6, LARGEST):
            with self.subTest(replica=replica):
                self.assertEqual(last(begin(4), move(0, 4, 0), compactable(replica)), [-2])


if __name__ == "__main__":
    unittest.main()
