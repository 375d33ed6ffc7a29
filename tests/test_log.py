import unittest

from helper import LARGEST, ask, begin, compact, deliver, last, log, move, moves, send


class Moves(unittest.TestCase):
    def test_none(self):
        self.assertEqual(ask(log(0), begin(6), log(0), log(5)), [[0], [0], [0], [0]])

    def test_the_own_ones_in_order(self):
        found = ask(move(0, 4, 0), log(0), move(0, 5, 4), move(0, 6, 5), log(0))
        self.assertEqual(found[1::3], [moves((0, 1)), moves((0, 1), (0, 2), (0, 3))])

    def test_each_replica_has_its_own(self):
        found = ask(begin(3), move(0, 4, 0), move(2, 5, 0), move(2, 5, 0), log(0), log(1), log(2))
        self.assertEqual(found[4:], [moves((0, 1)), [0], moves((2, 1), (2, 2))])

    def test_a_move_that_changes_no_tree_stands_in_it(self):
        found = ask(move(0, 4, 9), move(0, 4, 0), move(0, 4, 4), move(0, 5, 6), log(0))
        self.assertEqual([answer[2] for answer in found[:4]], [2, 1, 3, 2])
        self.assertEqual(found[4], moves((0, 1), (0, 2), (0, 3), (0, 4)))

    def test_all_80(self):
        calls = [move(0, 2, 0)] * 81
        self.assertEqual(last(*calls, log(0)), moves(*[(0, number) for number in range(1, 81)]))

    def test_begin_empties_it(self):
        self.assertEqual(last(move(0, 4, 0), begin(1), log(0)), [0])


class Order(unittest.TestCase):
    def test_equal_counters_of_two_replicas(self):
        for first, second in ((0, 1), (1, 0)):
            with self.subTest(first=first):
                found = ask(
                    begin(2), move(first, 4, 0), move(second, 5, 0), move(first, 4, 0), move(second, 5, 0),
                    send(0, 1), send(1, 0), deliver(0), deliver(1), log(0), log(1))
                self.assertEqual(found[-2:], [moves((0, 1), (1, 1), (0, 2), (1, 2))] * 2)

    def test_equal_counters_of_six_replicas(self):
        calls = [begin(6)] + [move(replica, 4, 0) for replica in (3, 5, 0, 2, 4, 1)]
        for place, replica in enumerate((4, 1, 0, 5, 3)):
            calls += [send(replica, 2), deliver(place)]
        self.assertEqual(last(*calls, log(2)), moves(*[(replica, 1) for replica in range(6)]))

    def test_the_counter_comes_before_the_replica(self):
        # Replica 1 has the counters 1 and 2, replica 0 then 3.
        found = last(begin(2), move(1, 4, 0), move(1, 4, 0), send(1, 0), deliver(0), move(0, 5, 0), log(0))
        self.assertEqual(found, moves((1, 1), (1, 2), (0, 1)))

    def test_the_number_is_not_the_counter(self):
        # The second move of replica 1 has the counter 4, like the fourth one of replica 0.
        found = last(
            begin(2), move(1, 5, 0), *[move(0, 4, 0)] * 3, send(0, 1), deliver(0), move(1, 5, 4), move(0, 4, 0),
            send(0, 1), deliver(1), log(1))
        self.assertEqual(found, moves((0, 1), (1, 1), (0, 2), (0, 3), (0, 4), (1, 2)))

    def test_late_and_out_of_order(self):
        calls = [
            begin(3), move(0, 4, 0), send(0, 2), move(1, 5, 0), move(1, 5, 0), send(1, 2), move(0, 4, 0), send(0, 2),
            move(2, 6, 0)]
        found = ask(*calls, log(2), deliver(2), log(2), deliver(1), log(2), deliver(0), log(2))[9:]
        self.assertEqual(found, [
            moves((2, 1)), [2], moves((0, 1), (2, 1), (0, 2)),
            [2], moves((0, 1), (1, 1), (2, 1), (0, 2), (1, 2)),
            [0], moves((0, 1), (1, 1), (2, 1), (0, 2), (1, 2))])
        found = ask(*calls, deliver(1), log(2), deliver(0), log(2), deliver(0), deliver(2), log(2))[9:]
        self.assertEqual(found, [
            [2], moves((1, 1), (2, 1), (1, 2)), [1], moves((0, 1), (1, 1), (2, 1), (1, 2)),
            [0], [1], moves((0, 1), (1, 1), (2, 1), (0, 2), (1, 2))])

    def test_over_a_third_replica(self):
        found = ask(
            begin(3), move(0, 4, 0), move(1, 5, 0), send(0, 1), deliver(0), send(1, 2), deliver(1), log(2),
            move(2, 6, 0), move(0, 4, 0), send(0, 2), deliver(2), log(2))
        self.assertEqual(found[7], moves((0, 1), (1, 1)))
        self.assertEqual(found[12], moves((0, 1), (1, 1), (0, 2), (2, 1)))


class AfterCompact(unittest.TestCase):
    def test_all_of_it(self):
        found = ask(move(0, 4, 0), move(0, 5, 4), compact(0), log(0), move(0, 6, 5), log(0), compact(0), log(0))
        self.assertEqual(found[2:], [[2, 2], [0], [3, 3, 1], moves((0, 3)), [1, 3], [0]])

    def test_a_part_of_it(self):
        found = ask(
            begin(2), move(0, 4, 0), move(0, 5, 4), send(0, 1), deliver(0), send(1, 0), move(0, 6, 5), move(0, 7, 9),
            deliver(1), log(0), compact(0), log(0), log(1))
        self.assertEqual(found[9:], [
            moves((0, 1), (0, 2), (0, 3), (0, 4)), [2, 2], moves((0, 3), (0, 4)), moves((0, 1), (0, 2))])

    def test_nothing_of_it(self):
        found = ask(begin(2), move(0, 4, 0), send(0, 1), deliver(0), compact(0), log(0), compact(1), log(1))
        self.assertEqual(found[4:], [[0, 0], moves((0, 1)), [1, 1], [0]])

    def test_a_compacted_move_does_not_come_back(self):
        found = ask(
            begin(2), move(0, 4, 0), send(0, 1), deliver(0), compact(1), deliver(0), log(1), move(0, 5, 4), send(0, 1),
            deliver(1), log(1))
        self.assertEqual(found[4:7], [[1, 1], [0], [0]])
        self.assertEqual(found[8:], [[1, 2], [1], moves((0, 2))])

    def test_later_moves_stand_in_order_behind_the_compacted_ones(self):
        found = ask(
            begin(2), move(1, 4, 0), send(1, 0), deliver(0), compact(0), move(0, 5, 0), move(0, 5, 0), move(1, 6, 0),
            send(1, 0), deliver(1), log(0))
        self.assertEqual(found[-1], moves((0, 1), (1, 2), (0, 2)))


class Errors(unittest.TestCase):
    def test_no_such_replica(self):
        self.assertEqual(ask(log(1), log(LARGEST), log(0)), [[-2], [-2], [0]])
        for replica in (4, 5, 6, LARGEST):
            with self.subTest(replica=replica):
                self.assertEqual(last(begin(4), move(0, 4, 0), log(replica)), [-2])


if __name__ == "__main__":
    unittest.main()
