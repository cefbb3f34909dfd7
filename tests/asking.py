"""Writes calls as the interface has them, hands them in and takes their answers apart."""

from pastviews.replicas import answers

GREATEST = 2 ** 64 - 1

OUT_OF_RANGE = [-1]
NO_SUCH = [-2]
NOT_THERE = [-3]
NO_ROOM = [-5]


def begin(replicas):
    return [1, replicas]


def move(replica, node, parent, label=0):
    return [2, replica, node, parent, label]


def deliver(number, replica):
    return [3, number, replica]


def sync(replica, other):
    return [4, replica, other]


def tree_at(replica, i, counter=GREATEST, origin=GREATEST):
    return [5, replica, i, counter, origin]


def ancestors(replica, i, node, counter=GREATEST, origin=GREATEST):
    return [6, replica, i, counter, origin, node]


def moved_by(replica, i, node, counter=GREATEST, origin=GREATEST):
    return [7, replica, i, counter, origin, node]


def differences(replica, i, j, stamp=(GREATEST, GREATEST), other_stamp=(GREATEST, GREATEST)):
    return [8, replica, i, stamp[0], stamp[1], j, other_stamp[0], other_stamp[1]]


def history(replica, node):
    return [9, replica, node]


def since(replica, node):
    return [10, replica, node]


def surprises(replica):
    return [11, replica]


def known(replica):
    return [12, replica]


def joined(calls):
    return [number for call in calls for number in call]


def ask(calls):
    """Return the answer to each of the calls, as a list of lists."""
    handed_in = joined(calls)
    if len(calls) > 200 or len(handed_in) > 1600:
        raise AssertionError("more calls than one list may have")
    before = list(handed_in)
    given_back = answers(handed_in)
    if handed_in != before:
        raise AssertionError("the list handed in was changed")
    return apart(given_back, len(calls))


def apart(given_back, count):
    """Take the list given back apart; every answer's form is checked on the way."""
    if type(given_back) is not list:
        raise AssertionError("not a list")
    if [number for number in given_back if type(number) is not int]:
        raise AssertionError("not whole numbers alone")
    parts = []
    position = 0
    while position < len(given_back):
        end = position + 1 + given_back[position]
        part = given_back[position + 1:end]
        if not part or len(part) != given_back[position]:
            raise AssertionError("a wrong count ahead of an answer")
        if min(part) < 0 and len(part) > 1:
            raise AssertionError("a negative number within an answer")
        parts.append(part)
        position = end
    if len(parts) != count:
        raise AssertionError("not one answer for each call")
    return parts


def last(calls):
    """Return the answer to the last of the calls."""
    return ask(calls)[-1]


def lasts(calls, questions):
    """Return the answers to the questions, which are asked behind the calls."""
    return ask(calls + questions)[len(calls):]


def listing(*rows):
    """Return the answer with these rows: node, depth and label in tree_at, or move, parent and label in history."""
    return [len(rows)] + [number for row in rows for number in row]


def chain(replica=0):
    """Return the moves that make every node from 2 to 63 the child of the one ahead, 2 below the root."""
    return [move(replica, 2, 0, 1002)] + [move(replica, node, node - 1, 1000 + node) for node in range(3, 64)]
