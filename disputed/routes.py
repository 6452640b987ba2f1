"""One object, and which call of it does what."""

from disputed.dispute import tell_by_told_picks, tell_held, tell_pick, tell_right, tell_true, tell_way
from disputed.leaves import tell_best, tell_depth, tell_if_flipped, tell_if_misread, tell_leaves, tell_matter
from disputed.leaves import tell_proof
from disputed.tree import ALL_OF, SOME_OF, add_joint, add_leaf, change_misread, flip_leaf, pop_last, tell_node

CALL_BEGIN = 0
CALL_LEAF = 1
CALL_ALL_OF = 2
CALL_SOME = 3
CALL_POP = 4
CALL_NODEIS = 5
CALL_FLIP = 6
CALL_WRONG = 7
CALL_TRUE = 8
CALL_HELD = 9
CALL_RIGHT = 10
CALL_PICK = 11
CALL_WAY = 12
CALL_BYSAY = 13
CALL_BYDOUBT = 14
CALL_PROOF = 15
CALL_LEAVES = 16
CALL_MATTER = 17
CALL_IFWRONG = 18
CALL_IFFLIP = 19
CALL_BEST = 20

NOT_BEGUN = -11


class Session:
    def __init__(self):
        self.begun = False
        self.nodes = []


def answer_call(session, call, numbers):
    if call == CALL_BEGIN:
        return begin(session)
    if not session.begun:
        return [NOT_BEGUN]
    if call <= CALL_WRONG:
        return answer_about_nodes(session.nodes, call, numbers)
    if call <= CALL_BYDOUBT:
        return answer_about_dispute(session.nodes, call, numbers)
    return answer_about_leaves(session.nodes, call, numbers)


def begin(session):
    session.begun = True
    session.nodes = []
    return [0]


def answer_about_nodes(nodes, call, numbers):
    if call == CALL_LEAF:
        return add_leaf(nodes, numbers[0], numbers[1])
    if call == CALL_ALL_OF:
        return add_joint(nodes, ALL_OF, numbers)
    if call == CALL_SOME:
        return add_joint(nodes, SOME_OF, numbers)
    if call == CALL_POP:
        return pop_last(nodes)
    if call == CALL_NODEIS:
        return tell_node(nodes, numbers[0])
    if call == CALL_FLIP:
        return flip_leaf(nodes, numbers[0])
    return change_misread(nodes, numbers[0], numbers[1])


def answer_about_dispute(nodes, call, numbers):
    if call == CALL_TRUE:
        return tell_true(nodes, numbers[0])
    if call == CALL_HELD:
        return tell_held(nodes, numbers[0])
    if call == CALL_RIGHT:
        return tell_right(nodes, numbers[0])
    if call == CALL_PICK:
        return tell_pick(nodes, numbers[0])
    if call == CALL_WAY:
        return tell_way(nodes, numbers[0])
    # Who is for it picks at some-of, who is against it at all-of.
    kind = SOME_OF if call == CALL_BYSAY else ALL_OF
    return tell_by_told_picks(nodes, kind, numbers[0], numbers[1:])


def answer_about_leaves(nodes, call, numbers):
    if call == CALL_PROOF:
        return tell_proof(nodes, numbers[0])
    if call == CALL_LEAVES:
        return tell_leaves(nodes, numbers[0])
    if call == CALL_MATTER:
        return tell_matter(nodes, numbers[0])
    if call == CALL_IFWRONG:
        return tell_if_misread(nodes, numbers[0], numbers[1], numbers[2])
    if call == CALL_IFFLIP:
        return tell_if_flipped(nodes, numbers[0], numbers[1])
    if call == CALL_BEST:
        return tell_best(nodes, numbers[0])
    # The one call that is left: depth.
    return tell_depth(nodes, numbers[0])
