"""The entry to the package: a list of calls in, the list of their answers out."""

from binnedtrees.sessions import Session

BEGIN = 1
MOVE = 2
SEND = 3
DELIVER = 4
COMPACT = 5
TREE = 6
BIN = 7
LOG = 8
HORIZON = 9
COMPACTABLE = 10

# For each operation, how many numbers stand behind its own in the list of calls.
ARGUMENT_COUNTS = {1: 1, 2: 4, 3: 2, 4: 1, 5: 1, 6: 1, 7: 1, 8: 1, 9: 1, 10: 1, 11: 2}


def answer_call(session, call):
    operation = call[0]
    if operation == BEGIN:
        return session.begin(call[1])
    if operation == MOVE:
        return session.make_move(call[1], call[2], call[3], call[4])
    if operation == SEND:
        return session.send_message(call[1], call[2])
    if operation == DELIVER:
        return session.deliver_message(call[1])
    if operation == COMPACT:
        return session.compact_log(call[1])
    if operation == TREE:
        return session.list_tree(call[1])
    if operation == BIN:
        return session.list_bin(call[1])
    if operation == LOG:
        return session.list_log(call[1])
    if operation == HORIZON:
        return session.tell_horizon(call[1])
    if operation == COMPACTABLE:
        return session.count_compactable(call[1])
    # Only compare is left, since no other number has a place in ARGUMENT_COUNTS.
    return session.compare_replicas(call[1], call[2])


def answers(calls):
    session = Session()
    told = []
    start = 0
    while start < len(calls):
        end = start + 1 + ARGUMENT_COUNTS[calls[start]]
        answer = answer_call(session, calls[start:end])
        told.append(len(answer))
        told.extend(answer)
        start = end
    return told
