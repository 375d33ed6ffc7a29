import unittest

from helper import (
    ask, begin, compact, compactable, compare, deliver, everything, horizon, in_bin, log, move, send, tree)

SESSION = [
    begin(3), move(0, 4, 0, 1), move(0, 5, 4, 2), move(1, 4, 1, 3), send(0, 1), send(1, 0), deliver(1), deliver(0),
    compact(1), send(0, 2), send(1, 2), deliver(2), move(2, 6, 5, 4), deliver(3), send(2, 0), send(2, 1), compact(2),
    deliver(4), deliver(5), compact(1), move(1, 4, 0, 5), move(1, 7, 6, 6), send(1, 0), compact(0), deliver(6),
    deliver(0), move(0, 7, 1, 7), send(0, 1), send(0, 2), deliver(7), deliver(8), compact(2), send(2, 1), deliver(9),
    compact(1)]

ASKING = [[ask_for(replica) for replica in range(3)] for ask_for in (tree, in_bin, log, horizon, compactable)]
ASKING.append([compare(one, other) for one in range(3) for other in range(3)])


class Asking(unittest.TestCase):
    def test_leaves_all_later_answers_as_they_are(self):
        expected = ask(*SESSION, *everything(3))
        for asked in ASKING + [everything(3)]:
            for place in range(1, len(SESSION) + 1):
                with self.subTest(asked=asked[0][0], place=place):
                    found = ask(*SESSION[:place], *asked, *SESSION[place:], *everything(3))
                    self.assertEqual(found[:place] + found[place + len(asked):], expected)

    def test_between_all_calls(self):
        expected = ask(*SESSION)
        for asked in ASKING:
            with self.subTest(asked=asked[0][0]):
                mixed = []
                for call in SESSION:
                    mixed += [call] + asked[:3]
                self.assertEqual(ask(*mixed)[::4], expected)

    def test_again_answers_the_same(self):
        for place in range(1, len(SESSION) + 1):
            for one in everything(3):
                found = ask(*SESSION[:place], one, one, one)[place:]
                self.assertEqual(found, [found[0]] * 3)

    def test_the_session_has_compacts_that_compact_something(self):
        # Else a question that changes a log or a clock could go unseen.
        found = ask(*SESSION)
        told = [answer[0] for call, answer in zip(SESSION, found) if call[0] == 5]
        self.assertGreaterEqual(len([number for number in told if number > 0]), 3)


if __name__ == "__main__":
    unittest.main()
