"""One object, and which call of it does what."""

from disputed.dispute import tell_held, tell_right, tell_true
from disputed.tree import ALL_OF, SOME_OF, add_joint, add_leaf, change_misread, flip_leaf, pop_last, tell_node

CALL_BEGIN = 0
CALL_LEAF = 1
CALL_ALL_OF = 2
CALL_SOME = 3
CALL_POP = 4
CALL_NODEIS = 5
CALL_FLIP = 6
CALL_WRONG = 7
CALL_TRUE = 8
CALL_HELD = 9
CALL_RIGHT = 10

NOT_BEGUN = -11


class UnknownCall(ValueError):
    pass


class Session:
    def __init__(self):
        self.begun = False
        self.nodes = []


def answer_call(session, call, numbers):
    if call == CALL_BEGIN:
        return begin(session)
    if not session.begun:
        return [NOT_BEGUN]
    if call <= CALL_WRONG:
        return answer_about_nodes(session.nodes, call, numbers)
    return answer_about_dispute(session.nodes, call, numbers)


def begin(session):
    session.begun = True
    session.nodes = []
    return [0]


def answer_about_nodes(nodes, call, numbers):
    if call == CALL_LEAF:
        return add_leaf(nodes, numbers[0], numbers[1])
    if call == CALL_ALL_OF:
        return add_joint(nodes, ALL_OF, numbers)
    if call == CALL_SOME:
        return add_joint(nodes, SOME_OF, numbers)
    if call == CALL_POP:
        return pop_last(nodes)
    if call == CALL_NODEIS:
        return tell_node(nodes, numbers[0])
    if call == CALL_FLIP:
        return flip_leaf(nodes, numbers[0])
    return change_misread(nodes, numbers[0], numbers[1])


def answer_about_dispute(nodes, call, numbers):
    if call == CALL_TRUE:
        return tell_true(nodes, numbers[0])
    if call == CALL_HELD:
        return tell_held(nodes, numbers[0])
    if call == CALL_RIGHT:
        return tell_right(nodes, numbers[0])
    raise UnknownCall(f"no call {call}")
