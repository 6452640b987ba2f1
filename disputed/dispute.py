"""How a dispute goes: what is true, what is picked, how often it is held, how often who is right wins.

How often is counted in hundredths here, and told as a fraction in the answers.
What is worked out for all nodes goes from the first to the last, since a node's
children stand ahead of it: no call within a call, however deep the tree.
"""

from disputed.tree import ALL_OF, BAD_NUMBERS, LEAF, NO_NODE, UNFIT, WHOLE


def tell_true(nodes, i):
    if i >= len(nodes):
        return [NO_NODE]
    return [truths(nodes)[i]]


def tell_held(nodes, i):
    if i >= len(nodes):
        return [NO_NODE]
    return [0] + fraction(held_hundredths(nodes)[i])


def tell_right(nodes, i):
    if i >= len(nodes):
        return [NO_NODE]
    return [0] + fraction(right_hundredths(nodes, i))


def tell_pick(nodes, i):
    if i >= len(nodes):
        return [NO_NODE]
    if nodes[i].kind == LEAF:
        return [UNFIT]
    return [picked_child(nodes[i], held_hundredths(nodes))]


def tell_way(nodes, i):
    if i >= len(nodes):
        return [NO_NODE]
    held = held_hundredths(nodes)
    way = [i]
    at = i
    while nodes[at].kind != LEAF:
        at = picked_child(nodes[at], held)
        way.append(at)
    return [len(way)] + way


# The picks that are told are those at the nodes of one kind: who picks there tells them.
def tell_by_told_picks(nodes, kind, i, row):
    if i >= len(nodes):
        return [NO_NODE]
    if not are_picks(nodes, kind, row):
        return [BAD_NUMBERS]
    return [0] + fraction(held_by_told_picks(nodes, kind, row)[i])


def truths(nodes):
    found = []
    for node in nodes:
        if node.kind == LEAF:
            found.append(node.so)
        else:
            found.append(picked_value(node, found))
    return found


def held_hundredths(nodes):
    found = []
    for node in nodes:
        if node.kind == LEAF:
            found.append(read_as_so(node))
        else:
            found.append(picked_value(node, found))
    return found


def right_hundredths(nodes, i):
    held = held_hundredths(nodes)[i]
    if truths(nodes)[i] == 1:
        return held
    return WHOLE - held


def are_picks(nodes, kind, row):
    if len(row) != len(nodes):
        return False
    for place, node in enumerate(nodes):
        choices = len(node.children) if node.kind == kind else 1
        if row[place] >= choices:
            return False
    return True


def held_by_told_picks(nodes, kind, row):
    found = []
    for place, node in enumerate(nodes):
        if node.kind == LEAF:
            found.append(read_as_so(node))
        elif node.kind == kind:
            found.append(found[node.children[row[place]]])
        else:
            found.append(picked_value(node, found))
    return found


def read_as_so(leaf):
    if leaf.so == 1:
        return WHOLE - leaf.misread
    return leaf.misread


def picked_value(node, values):
    # Who is against it picks at all-of and wants the least, who is for it at some-of and wants the
    # greatest; and as all-of is true if the least of its children is, the same serves for truth.
    below = [values[child] for child in node.children]
    if node.kind == ALL_OF:
        return min(below)
    return max(below)


def picked_child(node, values):
    below = [values[child] for child in node.children]
    return node.children[below.index(picked_value(node, values))]


def fraction(hundredths):
    shared = common_part(hundredths, WHOLE)
    return [hundredths // shared, WHOLE // shared]


def common_part(one, other):
    while other > 0:
        rest = one % other
        one = other
        other = rest
    return one
