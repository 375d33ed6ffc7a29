"""One replica, and the messages that replicas send each other."""

from binnedtrees.trees import Move, Tree, timestamp


class Message:
    def __init__(self, sender, receiver, counts, clock, moves):
        self.sender = sender
        self.receiver = receiver
        self.counts = counts
        self.clock = clock
        self.moves = moves


def larger_counts(counts, others):
    return [max(count, other) for count, other in zip(counts, others)]


# `confirmed` and `clocks` have one place for each replica. At the others' places stand their confirmed
# counts and their reported clocks, at the own place (`place`) the own counts and the own clock: so
# what the document asks of all replicas is asked of all places alike.
class Replica:
    def __init__(self, place, replica_count):
        self.place = place
        self.confirmed = [[0] * replica_count for row in range(replica_count)]
        self.clocks = [0] * replica_count
        self.log = []
        self.snapshot = Tree()
        self.compacted = 0

    def own_counts(self):
        return self.confirmed[self.place]

    def horizon(self):
        return min(self.clocks)

    def tree(self):
        # The snapshot itself must stay: an earlier move may still arrive.
        grown = self.snapshot.twin()
        for move in self.log:
            grown.apply(move)
        return grown

    def make_move(self, node, parent, label):
        number = self.own_counts()[self.place] + 1
        counter = self.clocks[self.place] + 1
        move = Move(self.place, number, counter, node, parent, label)
        outcome = self.tree().apply(move)
        # The clock is never behind a move received, so the new move is the last of the log.
        self.log.append(move)
        self.confirmed[self.place][self.place] = number
        self.clocks[self.place] = counter
        return [number, counter, outcome]

    def message_to(self, receiver):
        known = self.confirmed[receiver]
        moves = [move for move in self.log if move.number > known[move.origin]]
        # The counts are copied, since a later move here must not show in the message.
        counts = list(self.own_counts())
        return Message(self.place, receiver, counts, self.clocks[self.place], moves)

    # Gives back how many moves of the message were not received before.
    def take_in(self, message):
        counts = self.own_counts()
        fresh = [move for move in message.moves if move.number > counts[move.origin]]
        self.log = sorted(self.log + fresh, key=timestamp)
        for place in (self.place, message.sender):
            self.confirmed[place] = larger_counts(self.confirmed[place], message.counts)
            self.clocks[place] = max(self.clocks[place], message.clock)
        return len(fresh)

    def is_confirmed(self, move):
        return all([move.number <= counts[move.origin] for counts in self.confirmed])

    def compactable_moves(self):
        horizon = self.horizon()
        moves = []
        for move in self.log:
            if move.counter > horizon or not self.is_confirmed(move):
                break
            moves.append(move)
        return moves

    # Gives back how many moves are compacted now, and how many so far.
    def compact_log(self):
        moves = self.compactable_moves()
        for move in moves:
            self.snapshot.apply(move)
        self.log = self.log[len(moves):]
        self.compacted += len(moves)
        return [len(moves), self.compacted]
