"""What the tests share: calls written as lists, and their answers taken apart."""

from binnedtrees.replicas import answers

LARGEST = 2 ** 64 - 1


def begin(replicas):
    return [1, replicas]


def move(replica, node, parent, label=0):
    return [2, replica, node, parent, label]


def send(sender, receiver):
    return [3, sender, receiver]


def deliver(message):
    return [4, message]


def compact(replica):
    return [5, replica]


def tree(replica):
    return [6, replica]


def joined(calls):
    return [number for call in calls for number in call]


def split(numbers):
    """The answers, each one a list of its own."""
    found = []
    place = 0
    while place < len(numbers):
        end = place + 1 + numbers[place]
        if numbers[place] < 1 or end > len(numbers):
            raise AssertionError(f"no answer of {numbers[place]} numbers at {place}: {numbers}")
        found.append(numbers[place + 1:end])
        place = end
    return found


def ask(*calls):
    """The answer to each of the calls."""
    found = split(answers(joined(calls)))
    if len(found) != len(calls):
        raise AssertionError(f"{len(calls)} calls, {len(found)} answers")
    return found


def last(*calls):
    """The answer to the last one of the calls."""
    return ask(*calls)[-1]


def nodes(*rows):
    """What tree answers for these rows of node, depth and label."""
    return [len(rows)] + joined(rows)
