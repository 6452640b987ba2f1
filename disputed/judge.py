"""The interface: a list of calls on one new object in, the list of their answers out."""

from disputed.routes import Session, answer_call


def answers(calls):
    session = Session()
    told = []
    at = 0
    while at < len(calls):
        first = at + 2
        behind = first + calls[at + 1]
        answer = answer_call(session, calls[at], calls[first:behind])
        told.append(len(answer))
        told.extend(answer)
        # No call has further lists, so a single 0 stands behind its numbers.
        at = behind + 1
    return told
