"""The operations on the replicas and messages of one session.

Each operation gives back the list of the numbers that it answers. It checks for its errors,
in the order of the document, before it changes anything.
"""

from binnedtrees.members import Replica
from binnedtrees.trees import BIN, ROOT

OUT_OF_RANGE = -1
NOT_THERE = -2
TOO_MANY = -5

MOST_REPLICAS = 6
LAST_NODE = 63
LARGEST_LABEL = 1000000000
MOST_MOVES = 80
MOST_MESSAGES = 200


def move_in_range(node, parent, label):
    # The root and the bin are never moved.
    if node == ROOT or node == BIN or node > LAST_NODE:
        return False
    return parent <= LAST_NODE and label <= LARGEST_LABEL


def counted_rows(rows):
    told = [len(rows)]
    for row in rows:
        told.extend(row)
    return told


class Session:
    def __init__(self):
        self.start_with(1)

    def start_with(self, replica_count):
        self.replicas = [Replica(place, replica_count) for place in range(replica_count)]
        self.messages = []
        self.moves_made = 0

    def has_replica(self, replica):
        return replica < len(self.replicas)

    def begin(self, replica_count):
        if replica_count < 1 or replica_count > MOST_REPLICAS:
            return [OUT_OF_RANGE]
        self.start_with(replica_count)
        return [0]

    def make_move(self, replica, node, parent, label):
        if not self.has_replica(replica):
            return [NOT_THERE]
        if not move_in_range(node, parent, label):
            return [OUT_OF_RANGE]
        if self.moves_made == MOST_MOVES:
            return [TOO_MANY]
        self.moves_made += 1
        return self.replicas[replica].make_move(node, parent, label)

    def send_message(self, sender, receiver):
        if not self.has_replica(sender) or not self.has_replica(receiver) or sender == receiver:
            return [NOT_THERE]
        if len(self.messages) == MOST_MESSAGES:
            return [TOO_MANY]
        message = self.replicas[sender].message_to(receiver)
        self.messages.append(message)
        return [len(self.messages) - 1, len(message.moves)]

    def deliver_message(self, number):
        if number >= len(self.messages):
            return [NOT_THERE]
        message = self.messages[number]
        return [self.replicas[message.receiver].take_in(message)]

    def compact_log(self, replica):
        if not self.has_replica(replica):
            return [NOT_THERE]
        return self.replicas[replica].compact_log()

    def list_below(self, replica, top):
        if not self.has_replica(replica):
            return [NOT_THERE]
        return counted_rows(self.replicas[replica].tree().rows_below(top))

    def list_tree(self, replica):
        return self.list_below(replica, ROOT)

    def list_bin(self, replica):
        return self.list_below(replica, BIN)

    def list_log(self, replica):
        if not self.has_replica(replica):
            return [NOT_THERE]
        return counted_rows([(move.origin, move.number) for move in self.replicas[replica].log])

    def tell_horizon(self, replica):
        if not self.has_replica(replica):
            return [NOT_THERE]
        asked = self.replicas[replica]
        return [asked.horizon()] + asked.own_counts()

    def count_compactable(self, replica):
        if not self.has_replica(replica):
            return [NOT_THERE]
        return [len(self.replicas[replica].compactable_moves())]

    def compare_replicas(self, replica, other):
        if not self.has_replica(replica) or not self.has_replica(other):
            return [NOT_THERE]
        one = self.replicas[replica]
        two = self.replicas[other]
        same_counts = one.own_counts() == two.own_counts()
        same_tree = one.tree().same_as(two.tree())
        return [int(same_counts), int(same_tree)]
