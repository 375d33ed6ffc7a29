import unittest

from helper import (
    LARGEST, ask, begin, compact, compactable, compare, deliver, everything, horizon, in_bin, joined, log, move, send,
    tree)
from binnedtrees.replicas import answers

SESSION = [
    begin(3), move(0, 4, 0, 1), move(0, 5, 4, 2), move(1, 6, 0, 3), send(0, 1), send(1, 0), deliver(1), deliver(0),
    compact(1), send(0, 2), send(1, 2), deliver(2), deliver(3), move(2, 4, 6, 4), tree(2), send(2, 0), send(2, 1),
    deliver(4), deliver(5), compact(0), compact(1), compact(2), move(1, 6, 5, 5), tree(1), send(1, 0), deliver(6),
    tree(0), compact(0), deliver(0), tree(0), move(2, 5, 1, 6), send(2, 1), deliver(7), compactable(1), in_bin(1),
    log(1), horizon(1), compare(1, 2)] + everything(3)

WRONG = [
    begin(0), begin(7), begin(LARGEST),
    move(3, 7, 0), move(LARGEST, 7, 0), move(0, 0, 0), move(0, 1, 0), move(1, 64, 0), move(1, 7, 64),
    move(2, 7, 0, 1000000001), move(LARGEST, LARGEST, LARGEST, LARGEST),
    send(0, 0), send(2, 2), send(0, 3), send(3, 0), send(LARGEST, 0),
    deliver(200), deliver(LARGEST),
    compact(3), compact(LARGEST), tree(3), tree(LARGEST), in_bin(3), in_bin(LARGEST), log(3), log(LARGEST),
    horizon(3), horizon(LARGEST), compactable(3), compactable(LARGEST),
    compare(3, 0), compare(0, 3), compare(3, 3), compare(LARGEST, 1), compare(1, LARGEST), compare(LARGEST, LARGEST)]

CODES = [[-1]] * 3 + [[-2]] * 2 + [[-1]] * 5 + [[-2]] * 26


class HowAnswersAreTold(unittest.TestCase):
    def test_each_call_alone(self):
        self.assertEqual(answers([1, 6]), [1, 0])
        self.assertEqual(answers([2, 0, 7, 0, 30]), [3, 1, 1, 1])
        self.assertEqual(answers([3, 0, 1]), [1, -2])
        self.assertEqual(answers([4, 0]), [1, -2])
        self.assertEqual(answers([5, 0]), [2, 0, 0])
        self.assertEqual(answers([6, 0]), [1, 0])
        self.assertEqual(answers([7, 0]), [1, 0])
        self.assertEqual(answers([8, 0]), [1, 0])
        self.assertEqual(answers([9, 0]), [2, 0, 0])
        self.assertEqual(answers([10, 0]), [1, 0])
        self.assertEqual(answers([11, 0, 0]), [2, 1, 1])

    def test_one_behind_another(self):
        calls = [1, 2, 2, 0, 7, 0, 30, 2, 0, 8, 7, 40, 3, 0, 1, 4, 0, 5, 1, 6, 1]
        told = [1, 0, 3, 1, 1, 1, 3, 2, 2, 1, 2, 0, 2, 1, 2, 2, 2, 2, 7, 2, 7, 1, 30, 8, 2, 40]
        self.assertEqual(answers(calls), told)

    def test_all_eleven_one_behind_another(self):
        calls = [
            1, 2, 2, 0, 7, 0, 30, 2, 0, 8, 1, 40, 3, 0, 1, 4, 0, 9, 1, 10, 1, 8, 1, 7, 1, 6, 1, 11, 1, 0,
            2, 1, 7, 8, 50, 5, 1, 8, 1, 11, 0, 1]
        told = [
            1, 0, 3, 1, 1, 1, 3, 2, 2, 1, 2, 0, 2, 1, 2, 3, 2, 2, 0, 1, 2, 5, 2, 0, 1, 0, 2, 4, 1, 8, 1, 40,
            4, 1, 7, 1, 30, 2, 1, 1, 3, 1, 3, 1, 2, 2, 2, 3, 1, 1, 1, 2, 0, 0]
        self.assertEqual(answers(calls), told)

    def test_an_error_is_its_code_alone(self):
        self.assertEqual(answers([1, 0, 2, 1, 2, 0, 0, 2, 0, 1, 0, 0, 3, 0, 0, 4, 0, 5, 1, 6, 1]),
                         [1, -1, 1, -2, 1, -1, 1, -2, 1, -2, 1, -2, 1, -2])
        self.assertEqual(answers([7, 1, 8, 1, 9, 1, 10, 1, 11, 1, 0, 11, 0, 1, 11, 0, 0]), [1, -2] * 6 + [2, 1, 1])

    def test_only_whole_numbers_in_a_list(self):
        found = answers(joined(SESSION + WRONG))
        self.assertIs(type(found), list)
        self.assertEqual({type(number) for number in found}, {int})

    def test_only_errors_are_below_0(self):
        for answer in ask(*SESSION, *WRONG):
            self.assertTrue(min(answer) >= 0 or answer in ([-1], [-2], [-5]), answer)

class TheLargestNumber(unittest.TestCase):
    def test_in_each_place(self):
        # Each call is right as it stands; the codes are those for the largest number in each of its places.
        before = [begin(2), move(0, 4, 0), send(0, 1)]
        for call, codes in (
                (begin(1), [-1]), (move(1, 4, 0), [-2, -1, -1, -1]), (send(0, 1), [-2, -2]), (deliver(0), [-2]),
                (compact(1), [-2]), (tree(1), [-2]), (in_bin(1), [-2]), (log(1), [-2]), (horizon(1), [-2]),
                (compactable(1), [-2]), (compare(0, 1), [-2, -2])):
            self.assertEqual(len(codes), len(call) - 1)
            expected = ask(*before, call, *everything(1))
            for place, code in enumerate(codes, start=1):
                with self.subTest(call=call, place=place):
                    wrong = call[:place] + [LARGEST] + call[place + 1:]
                    self.assertEqual(ask(*before, wrong, call, *everything(1)),
                                     expected[:3] + [[code]] + expected[3:])


class AListOf250Calls(unittest.TestCase):
    def some_list(self):
        calls = [begin(4)]
        for step in range(36):
            one, other = step % 4, (step * 7 + 1) % 4
            calls += [move(one, 2 + step % 9, step % 5 // 2, step), send(one, other), deliver(step), compact(other)]
            calls.append((tree, in_bin, log, horizon, compactable)[step % 5](other))
            calls.append(compare(one, other))
        calls += everything(4)[:250 - len(calls)]
        return calls + [tree(0)] * (250 - len(calls))

    def test_of_all_eleven(self):
        calls = self.some_list()
        self.assertEqual(len(calls), 250)
        self.assertEqual({call[0] for call in calls}, set(range(1, 12)))
        self.assertEqual(len(ask(*calls)), 250)

    def test_twice_and_unchanged(self):
        numbers = joined(self.some_list())
        before = list(numbers)
        first = answers(numbers)
        self.assertEqual(numbers, before)
        self.assertEqual(answers(numbers), first)
        self.assertEqual(numbers, before)

    def test_the_answers_to_its_beginnings(self):
        calls = self.some_list()
        found = ask(*calls)
        for length in (1, 2, 100, 249):
            self.assertEqual(ask(*calls[:length]), found[:length])

    def test_the_one_with_the_most_numbers(self):
        calls = [move(0, 2, 0)] * 250
        self.assertEqual(len(joined(calls)), 1250)
        found = ask(*calls)
        self.assertEqual(found[79:], [[80, 80, 1]] + [[-5]] * 170)


class ErrorsChangeNothing(unittest.TestCase):
    def test_before_a_session_and_between_its_calls(self):
        expected = ask(*SESSION)
        for place in range(len(SESSION) + 1):
            with self.subTest(place=place):
                # Before the first begin there is one replica: another one is missing, too.
                found = ask(*SESSION[:place], *WRONG, *SESSION[place:])
                self.assertEqual(found[:place] + found[place + len(WRONG):], expected)
                if place > 0:
                    self.assertEqual(found[place:place + len(WRONG)], CODES)

    def test_each_error_alone_between_all_calls(self):
        expected = ask(*SESSION)
        for wrong in WRONG:
            with self.subTest(wrong=wrong):
                mixed = []
                for call in SESSION:
                    mixed += [call, wrong]
                self.assertEqual(ask(*mixed)[::2], expected)

    def test_too_many_moves_or_messages(self):
        calls = [begin(2)] + [move(0, 2, 0)] * 39 + [move(1, 3, 0)] * 41 + [send(0, 1), send(1, 0)]
        rest = [deliver(0), tree(1), compact(1), deliver(1), tree(0), compact(0), send(0, 1), deliver(2), compact(1)]
        expected = ask(*calls, *rest)
        mixed = []
        for call in rest:
            mixed += [move(0, 4, 0), move(1, 5, 0), call]
        self.assertEqual(ask(*calls, *mixed)[len(calls):][2::3], expected[len(calls):])
        self.assertEqual(ask(*calls, *mixed)[len(calls):][::3], [[-5]] * len(rest))
        calls = [begin(2), move(0, 2, 0)] + [send(0, 1)] * 200
        rest = [deliver(199), tree(1), compact(1), compact(0), deliver(198), move(1, 3, 2), tree(1)]
        expected = ask(*calls, *rest)
        mixed = []
        for call in rest:
            mixed += [send(1, 0), send(0, 1), call]
        self.assertEqual(ask(*calls, *mixed)[len(calls):][2::3], expected[len(calls):])


class NothingIsKept(unittest.TestCase):
    def test_the_same_list_twice(self):
        calls = joined(SESSION)
        first = answers(calls)
        second = answers(calls)
        self.assertEqual(first, second)
        first.append(5)
        self.assertEqual(answers(calls), second)

    def test_another_list_between(self):
        calls = joined(SESSION[1:])
        first = answers(calls)
        answers(joined(SESSION))
        self.assertEqual(answers([6, 0, 5, 0, 4, 0, 6, 1]), [1, 0, 2, 0, 0, 1, -2, 1, -2])
        self.assertEqual(answers(calls), first)

    def test_the_list_is_unchanged(self):
        calls = joined(SESSION + WRONG)
        before = list(calls)
        answers(calls)
        self.assertEqual(calls, before)


if __name__ == "__main__":
    unittest.main()
