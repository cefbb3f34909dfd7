"""The calls of a session as one list of numbers, and their answers as another."""

from pastviews.refusals import NodeNotThere, NoSuchThing, OutOfRange, TooManyMoves
from pastviews.sessions import Session

# How many numbers stand behind the number of each operation.
ARGUMENT_COUNTS = {1: 1, 2: 4, 3: 2, 4: 2, 5: 4, 6: 5, 7: 5, 8: 7, 9: 2, 10: 2, 11: 1, 12: 1}


def answers(calls):
    """Apply the calls in order to a new session, and return their answers one behind another."""
    session = Session()
    answered = []
    position = 0
    while position < len(calls):
        operation = calls[position]
        end = position + 1 + ARGUMENT_COUNTS[operation]
        answer = answer_of(session, operation, calls[position + 1:end])
        answered.append(len(answer))
        answered.extend(answer)
        position = end
    return answered


def answer_of(session, operation, given):
    """Return the answer to one call, which is the error code alone if the call is refused."""
    try:
        return carried_out(session, operation, given)
    except OutOfRange:
        return [-1]
    except NoSuchThing:
        return [-2]
    except NodeNotThere:
        return [-3]
    except TooManyMoves:
        return [-5]


def carried_out(session, operation, given):
    """Carry out one call on the session."""
    if operation == 1:
        return session.begin(given[0])
    if operation == 2:
        return session.move(given[0], given[1], given[2], given[3])
    if operation == 3:
        return session.deliver(given[0], given[1])
    if operation == 4:
        return session.sync(given[0], given[1])
    if operation == 5:
        return session.tree_at(given[0], given[1], given[2], given[3])
    if operation == 6:
        return session.ancestors(given[0], given[1], given[2], given[3], given[4])
    if operation == 7:
        return session.moved_by(given[0], given[1], given[2], given[3], given[4])
    if operation == 8:
        return session.differences(given[0], given[1], given[2], given[3], given[4], given[5], given[6])
    if operation == 9:
        return session.history(given[0], given[1])
    if operation == 10:
        return session.since(given[0], given[1])
    if operation == 11:
        return session.surprises(given[0])
    return session.known(given[0])
