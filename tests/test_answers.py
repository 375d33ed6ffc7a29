import unittest

from helper import LARGEST, ask, begin, compact, deliver, joined, move, send, tree
from binnedtrees.replicas import answers

SESSION = [
    begin(3), move(0, 4, 0, 1), move(0, 5, 4, 2), move(1, 6, 0, 3), send(0, 1), send(1, 0), deliver(1), deliver(0),
    compact(1), send(0, 2), send(1, 2), deliver(2), deliver(3), move(2, 4, 6, 4), tree(2), send(2, 0), send(2, 1),
    deliver(4), deliver(5), compact(0), compact(1), compact(2), move(1, 6, 5, 5), tree(1), send(1, 0), deliver(6),
    tree(0), compact(0), deliver(0), tree(0)]

WRONG = [
    begin(0), begin(7), begin(LARGEST),
    move(3, 7, 0), move(LARGEST, 7, 0), move(0, 0, 0), move(0, 1, 0), move(1, 64, 0), move(1, 7, 64),
    move(2, 7, 0, 1000000001), move(LARGEST, LARGEST, LARGEST, LARGEST),
    send(0, 0), send(2, 2), send(0, 3), send(3, 0), send(LARGEST, 0),
    deliver(200), deliver(LARGEST),
    compact(3), compact(LARGEST), tree(3), tree(LARGEST)]

CODES = [[-1]] * 3 + [[-2]] * 2 + [[-1]] * 5 + [[-2]] * 12


class HowAnswersAreTold(unittest.TestCase):
    def test_each_call_alone(self):
        self.assertEqual(answers([1, 6]), [1, 0])
        self.assertEqual(answers([2, 0, 7, 0, 30]), [3, 1, 1, 1])
        self.assertEqual(answers([3, 0, 1]), [1, -2])
        self.assertEqual(answers([4, 0]), [1, -2])
        self.assertEqual(answers([5, 0]), [2, 0, 0])
        self.assertEqual(answers([6, 0]), [1, 0])

    def test_one_behind_another(self):
        calls = [1, 2, 2, 0, 7, 0, 30, 2, 0, 8, 7, 40, 3, 0, 1, 4, 0, 5, 1, 6, 1]
        told = [1, 0, 3, 1, 1, 1, 3, 2, 2, 1, 2, 0, 2, 1, 2, 2, 2, 2, 7, 2, 7, 1, 30, 8, 2, 40]
        self.assertEqual(answers(calls), told)

    def test_an_error_is_its_code_alone(self):
        self.assertEqual(answers([1, 0, 2, 1, 2, 0, 0, 2, 0, 1, 0, 0, 3, 0, 0, 4, 0, 5, 1, 6, 1]),
                         [1, -1, 1, -2, 1, -1, 1, -2, 1, -2, 1, -2, 1, -2])

    def test_only_whole_numbers_in_a_list(self):
        found = answers(joined(SESSION + WRONG))
        self.assertIs(type(found), list)
        self.assertEqual({type(number) for number in found}, {int})

    def test_only_errors_are_below_0(self):
        for answer in ask(*SESSION, *WRONG):
            self.assertTrue(min(answer) >= 0 or answer in ([-1], [-2], [-5]), answer)

    def test_the_longest_list(self):
        calls = [move(0, 2, 0)] * 250
        self.assertEqual(len(joined(calls)), 1250)
        found = ask(*calls)
        self.assertEqual(found[79:], [[80, 80, 1]] + [[-5]] * 170)


class ErrorsChangeNothing(unittest.TestCase):
    def test_before_a_session_and_between_its_calls(self):
        expected = ask(*SESSION)
        for place in range(len(SESSION) + 1):
            with self.subTest(place=place):
                # Before the first begin there is one replica: another one is missing, too.
                found = ask(*SESSION[:place], *WRONG, *SESSION[place:])
                self.assertEqual(found[:place] + found[place + len(WRONG):], expected)
                if place > 0:
                    self.assertEqual(found[place:place + len(WRONG)], CODES)

    def test_each_error_alone_between_all_calls(self):
        expected = ask(*SESSION)
        for wrong in WRONG:
            with self.subTest(wrong=wrong):
                mixed = []
                for call in SESSION:
                    mixed += [call, wrong]
                self.assertEqual(ask(*mixed)[::2], expected)

    def test_too_many_moves_or_messages(self):
        calls = [begin(2)] + [move(0, 2, 0)] * 39 + [move(1, 3, 0)] * 41 + [send(0, 1), send(1, 0)]
        rest = [deliver(0), tree(1), compact(1), deliver(1), tree(0), compact(0), send(0, 1), deliver(2), compact(1)]
        expected = ask(*calls, *rest)
        mixed = []
        for call in rest:
            mixed += [move(0, 4, 0), move(1, 5, 0), call]
        self.assertEqual(ask(*calls, *mixed)[len(calls):][2::3], expected[len(calls):])
        self.assertEqual(ask(*calls, *mixed)[len(calls):][::3], [[-5]] * len(rest))
        calls = [begin(2), move(0, 2, 0)] + [send(0, 1)] * 200
        rest = [deliver(199), tree(1), compact(1), compact(0), deliver(198), move(1, 3, 2), tree(1)]
        expected = ask(*calls, *rest)
        mixed = []
        for call in rest:
            mixed += [send(1, 0), send(0, 1), call]
        self.assertEqual(ask(*calls, *mixed)[len(calls):][2::3], expected[len(calls):])


class NothingIsKept(unittest.TestCase):
    def test_the_same_list_twice(self):
        calls = joined(SESSION)
        first = answers(calls)
        second = answers(calls)
        self.assertEqual(first, second)
        first.append(5)
        self.assertEqual(answers(calls), second)

    def test_another_list_between(self):
        calls = joined(SESSION[1:])
        first = answers(calls)
        answers(joined(SESSION))
        self.assertEqual(answers([6, 0, 5, 0, 4, 0, 6, 1]), [1, 0, 2, 0, 0, 1, -2, 1, -2])
        self.assertEqual(answers(calls), first)

    def test_the_list_is_unchanged(self):
        calls = joined(SESSION + WRONG)
        before = list(calls)
        answers(calls)
        self.assertEqual(calls, before)


if __name__ == "__main__":
    unittest.main()
