"""What README.md tells of the calls is so."""

import pathlib
import re
import unittest

from binnedtrees.replicas import ARGUMENT_COUNTS, answers

TEXT = (pathlib.Path(__file__).resolve().parent.parent / "README.md").read_text()


def numbers(text):
    return [int(number) for number in re.findall(r"\d+", text)]


class Readme(unittest.TestCase):
    def test_all_eleven_calls_stand_in_the_table(self):
        rows = re.findall(r"^\| ([a-z]+) \| (\d+), ([a-z, ]+) \|", TEXT, re.MULTILINE)
        self.assertEqual([row[0] for row in rows], [
            "begin", "move", "send", "deliver", "compact", "tree", "bin", "log", "horizon", "compactable", "compare"])
        self.assertEqual({int(row[1]): len(row[2].split(", ")) for row in rows}, ARGUMENT_COUNTS)

    def test_the_examples(self):
        examples = re.findall(r"^answers\((\[.*\])\)\n((?:# .*\n)+)", TEXT, re.MULTILINE)
        self.assertEqual(len(examples), 2)
        for calls, told in examples:
            self.assertEqual(answers(numbers(calls)), numbers(told))


if __name__ == "__main__":
    unittest.main()
