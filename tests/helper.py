"""What the tests share: calls written as lists, their answers taken apart, and sessions thrown with dice."""

import random

from binnedtrees.replicas import answers

LARGEST = 2 ** 64 - 1


def begin(replicas):
    return [1, replicas]


def move(replica, node, parent, label=0):
    return [2, replica, node, parent, label]


def send(sender, receiver):
    return [3, sender, receiver]


def deliver(message):
    return [4, message]


def compact(replica):
    return [5, replica]


def tree(replica):
    return [6, replica]


def in_bin(replica):
    return [7, replica]


def log(replica):
    return [8, replica]


def horizon(replica):
    return [9, replica]


def compactable(replica):
    return [10, replica]


def compare(replica, other):
    return [11, replica, other]


def everything(replicas):
    """All that can be asked without a change, of this many replicas."""
    calls = [ask_for(replica) for ask_for in (tree, in_bin, log, horizon, compactable) for replica in range(replicas)]
    return calls + [compare(one, other) for one in range(replicas) for other in range(replicas)]


def joined(calls):
    return [number for call in calls for number in call]


def split(numbers):
    """The answers, each one a list of its own."""
    found = []
    place = 0
    while place < len(numbers):
        end = place + 1 + numbers[place]
        if numbers[place] < 1 or end > len(numbers):
            raise AssertionError(f"no answer of {numbers[place]} numbers at {place}: {numbers}")
        found.append(numbers[place + 1:end])
        place = end
    return found


def ask(*calls):
    """The answer to each of the calls."""
    found = split(answers(joined(calls)))
    if len(found) != len(calls):
        raise AssertionError(f"{len(calls)} calls, {len(found)} answers")
    return found


def last(*calls):
    """The answer to the last one of the calls."""
    return ask(*calls)[-1]


def nodes(*rows):
    """What tree and bin answer for these rows of node, depth and label."""
    return [len(rows)] + joined(rows)


def moves(*pairs):
    """What log answers for these pairs of replica and number."""
    return [len(pairs)] + joined(pairs)


# How often move, send, deliver, compact and a question come: evenly, with more than 80 moves, and with more than
# 200 messages.
WEIGHTS = ((26, 20, 26, 10, 18), (45, 15, 25, 5, 10), (4, 90, 3, 1, 2))


class Thrown:
    """The calls of a session from its dice, seldom wrong ones among them."""

    def __init__(self, seed, length):
        self.dice = random.Random(seed)
        self.weights = self.dice.choice((0, 0, 0, 0, 0, 0, 1, 1, 1, 2))
        self.nodes = self.dice.choice((2, 3, 5, 8, 62))
        self.messages = 0
        self.calls = []
        self.anew(self.dice.choice((1, 2, 2, 3, 3, 4, 6)))
        while len(self.calls) < length:
            if self.dice.random() < 0.002:
                self.anew(self.dice.choice((0, 1, 2, 3, 7, LARGEST)))
            else:
                self.dice.choices(
                    (self.move, self.send, self.deliver, self.compact, self.question), WEIGHTS[self.weights])[0]()

    def anew(self, replicas):
        self.calls.append(begin(replicas))
        if 1 <= replicas <= 6:
            self.replicas = replicas
            self.messages = 0

    def place(self):
        if self.dice.random() < 0.02:
            return self.dice.choice((self.replicas, self.replicas, 6, LARGEST))
        return self.dice.randrange(self.replicas)

    def move(self):
        call = move(
            self.place(), self.dice.randrange(2, 2 + self.nodes), self.dice.randrange(2 + self.nodes),
            self.dice.randrange(1000))
        if self.dice.random() < 0.02:
            call[self.dice.randrange(1, 5)] = self.dice.choice((0, 1, 64, 1000000001, LARGEST))
        self.calls.append(call)

    def send(self):
        sender, receiver = self.place(), self.place()
        if sender == receiver and self.dice.random() < 0.9:
            receiver = (receiver + 1) % self.replicas
        self.calls.append(send(sender, receiver))
        if sender != receiver and max(sender, receiver) < self.replicas and self.messages < 200:
            self.messages += 1

    def deliver(self):
        first = max(0, self.messages - 4) if self.dice.random() < 0.6 else 0
        missing = self.messages == 0 or self.dice.random() < 0.02
        self.calls.append(deliver(self.messages if missing else self.dice.randrange(first, self.messages)))

    def compact(self):
        self.calls.append(compact(self.place()))

    def question(self):
        kind = self.dice.choice((tree, in_bin, log, horizon, compactable, compare))
        self.calls.append(compare(self.place(), self.place()) if kind == compare else kind(self.place()))


def told(pairs, sent):
    """The calls by which the first of each pair tells the second, when `sent` messages are there already."""
    return joined([[send(one, other), deliver(sent + place)] for place, (one, other) in enumerate(pairs)])


def all_told(replicas):
    """Pairs by which all get to have everything, and then to know that all have it."""
    others = range(replicas - 1)
    pairs = [(one, replicas - 1) for one in others] + [(replicas - 1, one) for one in others]
    return pairs + [(one, other) for one in range(replicas) for other in range(replicas) if one != other]
