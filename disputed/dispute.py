"""How a dispute goes: what is true, how often it is held, how often who is right wins.

How often is counted in hundredths here, and told as a fraction in the answers.
What is worked out for all nodes goes from the first to the last, since a node's
children stand ahead of it: no call within a call, however deep the tree.
"""

from disputed.tree import ALL_OF, LEAF, NO_NODE, WHOLE


def tell_true(nodes, i):
    if i >= len(nodes):
        return [NO_NODE]
    return [truths(nodes)[i]]


def tell_held(nodes, i):
    if i >= len(nodes):
        return [NO_NODE]
    return [0] + fraction(held_hundredths(nodes)[i])


def tell_right(nodes, i):
    if i >= len(nodes):
        return [NO_NODE]
    return [0] + fraction(right_hundredths(nodes, i))


def truths(nodes):
    found = []
    for node in nodes:
        if node.kind == LEAF:
            found.append(node.so)
        else:
            found.append(picked_value(node, found))
    return found


def held_hundredths(nodes):
    found = []
    for node in nodes:
        if node.kind == LEAF:
            found.append(read_as_so(node))
        else:
            found.append(picked_value(node, found))
    return found


def right_hundredths(nodes, i):
    held = held_hundredths(nodes)[i]
    if truths(nodes)[i] == 1:
        return held
    return WHOLE - held


def read_as_so(leaf):
    if leaf.so == 1:
        return WHOLE - leaf.misread
    return leaf.misread


def picked_value(node, values):
    # Who is against it picks at all-of and wants the least, who is for it at some-of and wants the
    # greatest; and as all-of is true if the least of its children is, the same serves for truth.
    below = [values[child] for child in node.children]
    if node.kind == ALL_OF:
        return min(below)
    return max(below)


def fraction(hundredths):
    shared = common_part(hundredths, WHOLE)
    return [hundredths // shared, WHOLE // shared]


def common_part(one, other):
    while other > 0:
        rest = one % other
        one = other
        other = rest
    return one
