import unittest

from helper import LARGEST, ask, begin, compact, deliver, horizon, last, move, send


class OneReplica(unittest.TestCase):
    def test_its_clock(self):
        self.assertEqual(ask(horizon(0), move(0, 4, 0), horizon(0), move(0, 5, 9), move(0, 4, 4), horizon(0)),
                         [[0, 0], [1, 1, 1], [1, 1], [2, 2, 2], [3, 3, 3], [3, 3]])

    def test_80_moves(self):
        self.assertEqual(last(*[move(0, 2, 0)] * 81, horizon(0)), [80, 80])

    def test_compact_leaves_it(self):
        found = ask(move(0, 4, 0), move(0, 5, 0), compact(0), horizon(0), compact(0), move(0, 5, 4), horizon(0))
        self.assertEqual([found[place] for place in (3, 6)], [[2, 2], [3, 3]])

    def test_begin_turns_it_back(self):
        self.assertEqual(last(move(0, 4, 0), begin(1), horizon(0)), [0, 0])


class SeveralReplicas(unittest.TestCase):
    def test_as_many_counts_as_replicas(self):
        for replicas in range(1, 7):
            with self.subTest(replicas=replicas):
                self.assertEqual(last(begin(replicas), horizon(replicas - 1)), [0] * (1 + replicas))

    def test_before_and_after_a_message_arrives(self):
        found = ask(
            begin(2), move(0, 4, 0), move(0, 4, 0), horizon(0), horizon(1), send(0, 1), horizon(1), deliver(0),
            horizon(1), horizon(0), send(1, 0), deliver(1), horizon(0))
        self.assertEqual([found[place] for place in (3, 4, 6, 8, 9, 12)], [
            [0, 2, 0], [0, 0, 0], [0, 0, 0], [2, 2, 0], [0, 2, 0], [2, 2, 0]])

    def test_the_own_clock_alone_does_not_lift_it(self):
        found = ask(
            begin(2), send(0, 1), *[move(1, 4, 0)] * 3, send(1, 0), deliver(1), horizon(0), move(0, 5, 0), horizon(0),
            deliver(0), horizon(1))
        self.assertEqual([found[place] for place in (7, 9, 11)], [[3, 0, 3], [3, 1, 3], [0, 0, 3]])

    def test_the_smallest_of_the_reported_clocks(self):
        calls = [
            begin(3), move(0, 4, 0), *[move(1, 5, 0)] * 3, *[move(2, 6, 0)] * 2, send(1, 0), send(2, 0),
            send(1, 2), send(0, 2), send(0, 1), send(2, 1)]
        found = ask(
            *calls, deliver(0), horizon(0), deliver(1), horizon(0), deliver(2), horizon(2), deliver(3), horizon(2),
            deliver(4), horizon(1), deliver(5), horizon(1))
        self.assertEqual(found[14::2], [
            [0, 1, 3, 0], [2, 1, 3, 2], [0, 0, 3, 2], [1, 1, 3, 2], [0, 1, 3, 0], [1, 1, 3, 2]])

    def test_a_clock_told_by_a_third_replica_is_not_reported(self):
        # Replica 1 hands on what replica 0 made, but cannot speak for its clock.
        found = ask(
            begin(3), move(0, 4, 0), send(0, 1), deliver(0), send(1, 2), deliver(1), horizon(2), send(0, 2),
            deliver(2), horizon(2))
        self.assertEqual([found[place] for place in (6, 9)], [[0, 1, 0, 0], [1, 1, 0, 0]])

    def test_a_late_message_with_a_smaller_clock(self):
        found = ask(
            begin(2), move(0, 4, 0), send(0, 1), move(0, 4, 0), send(0, 1), move(1, 5, 0), deliver(1), horizon(1),
            deliver(0), horizon(1), deliver(1), horizon(1))
        self.assertEqual(found[7::2], [[2, 2, 1]] * 3)

    def test_in_order(self):
        found = ask(
            begin(2), move(0, 4, 0), send(0, 1), move(0, 4, 0), send(0, 1), deliver(0), horizon(1), deliver(1),
            horizon(1))
        self.assertEqual(found[6::2], [[1, 1, 0], [2, 2, 0]])

    def test_a_message_tells_the_clock_of_its_own_time(self):
        found = last(begin(2), move(0, 4, 0), send(0, 1), *[move(0, 4, 0)] * 3, *[move(1, 5, 0)] * 5, deliver(0),
                     horizon(1))
        self.assertEqual(found, [1, 1, 5])

    def test_a_message_without_moves_tells_a_clock(self):
        found = ask(
            begin(2), move(0, 4, 0), send(0, 1), deliver(0), send(1, 0), horizon(0), deliver(1), horizon(0))
        self.assertEqual(found[4:], [[1, 0], [0, 1, 0], [0], [1, 1, 0]])

    def test_six_replicas(self):
        calls = [begin(6)]
        for replica in range(6):
            calls += [move(replica, 4, 0)] * (replica + 1)
        for place, replica in enumerate((5, 1, 3, 4)):
            calls += [send(replica, 2), deliver(place)]
        found = ask(*calls, horizon(2), send(0, 2), deliver(4), horizon(2), horizon(0), horizon(5))
        self.assertEqual([found[place] for place in (-6, -3, -2, -1)], [
            [0, 0, 2, 3, 4, 5, 6], [1, 1, 2, 3, 4, 5, 6], [0, 1, 0, 0, 0, 0, 0], [0, 0, 0, 0, 0, 0, 6]])
        # Another message from the one with the smallest clock lets the horizon rise to the next smallest.
        self.assertEqual(last(*calls, *[move(0, 4, 0)] * 9, send(0, 2), deliver(4), horizon(2)),
                         [2, 10, 2, 3, 4, 5, 6])

    def test_compact_leaves_it(self):
        found = ask(
            begin(2), move(0, 4, 0), move(1, 5, 0), send(0, 1), deliver(0), compact(1), horizon(1), send(1, 0),
            deliver(1), horizon(0), compact(0), horizon(0), compact(1), horizon(1))
        self.assertEqual([found[place] for place in (5, 6, 9, 10, 11, 12, 13)], [
            [1, 1], [1, 1, 1], [1, 1, 1], [2, 2], [1, 1, 1], [0, 1], [1, 1, 1]])


class CountsAfterADelivery(unittest.TestCase):
    def test_the_larger_one_for_each_replica(self):
        # Replica 2 has more of replica 0 than the message from replica 1, and less of replica 1.
        found = ask(
            begin(3), move(0, 4, 0), send(0, 1), deliver(0), move(0, 4, 0), send(0, 2), deliver(1),
            *[move(1, 5, 0)] * 3, send(1, 2), horizon(2), deliver(2), horizon(2), deliver(1), horizon(2))
        self.assertEqual(found[11::2], [[0, 2, 0, 0], [2, 2, 3, 0], [2, 2, 3, 0]])

    def test_are_those_of_the_time_when_the_message_was_created(self):
        found = ask(begin(2), move(0, 4, 0), send(0, 1), move(0, 4, 0), deliver(0), horizon(1), horizon(0))
        self.assertEqual(found[-2:], [[1, 1, 0], [0, 2, 0]])


class Errors(unittest.TestCase):
    def test_no_such_replica(self):
        self.assertEqual(ask(horizon(1), horizon(LARGEST), horizon(0)), [[-2], [-2], [0, 0]])
        for replica in (4, 5, 6, LARGEST):
            with self.subTest(replica=replica):
                self.assertEqual(last(begin(4), move(0, 4, 0), horizon(replica)), [-2])


if __name__ == "__main__":
    unittest.main()
