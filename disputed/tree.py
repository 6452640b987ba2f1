"""The nodes of one object, and the calls that put, drop, show and change them.

The nodes are kept in one list, each at the place that is its number. A node's
children were there before it, so they always stand ahead of it in that list.
"""

LEAF = 0
ALL_OF = 1
SOME_OF = 2

MOST_NODES = 20
MOST_CHILDREN = 4
WHOLE = 100

NO_NODE = -2
NONE_LEFT = -6
BAD_NUMBERS = -22
TOO_MANY = -28
UNFIT = -33


# A leaf has so and misread and no children; the others have children alone.
class Node:
    def __init__(self, kind, so, misread, children):
        self.kind = kind
        self.so = so
        self.misread = misread
        self.children = children


def add_leaf(nodes, so, misread):
    if so > 1 or misread > WHOLE:
        return [BAD_NUMBERS]
    return add_node(nodes, Node(LEAF, so, misread, []))


def add_joint(nodes, kind, row):
    if not can_be_children(nodes, row):
        return [BAD_NUMBERS]
    return add_node(nodes, Node(kind, 0, 0, list(row)))


def add_node(nodes, node):
    if len(nodes) == MOST_NODES:
        return [TOO_MANY]
    nodes.append(node)
    return [len(nodes) - 1]


def can_be_children(nodes, row):
    if len(row) < 1 or len(row) > MOST_CHILDREN:
        return False
    taken = children_of_all(nodes)
    for child in row:
        if child >= len(nodes) or child in taken:
            return False
        # The row takes it too, so that a child named twice is found.
        taken.append(child)
    return True


def children_of_all(nodes):
    # Gathered anew each time, so that whatever is popped leaves its children free.
    taken = []
    for node in nodes:
        taken.extend(node.children)
    return taken


def pop_last(nodes):
    if len(nodes) == 0:
        return [NONE_LEFT]
    nodes.pop()
    return [len(nodes)]


def tell_node(nodes, i):
    if i >= len(nodes):
        return [NO_NODE]
    node = nodes[i]
    if node.kind == LEAF:
        return [LEAF, node.so, node.misread]
    return [node.kind] + node.children


def flip_leaf(nodes, i):
    if i >= len(nodes):
        return [NO_NODE]
    node = nodes[i]
    if node.kind != LEAF:
        return [UNFIT]
    node.so = 1 - node.so
    return [node.so]


def change_misread(nodes, i, misread):
    if i >= len(nodes):
        return [NO_NODE]
    if misread > WHOLE:
        return [BAD_NUMBERS]
    node = nodes[i]
    if node.kind != LEAF:
        return [UNFIT]
    before = node.misread
    node.misread = misread
    return [before]
