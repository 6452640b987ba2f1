"""What a node stands on: its leaves, how deep they lie, which prove it, which matter, what if one were otherwise.

What would be is worked out on another list of nodes, in which one leaf is put
anew: the object's own nodes stay as they are.
"""

from disputed.dispute import fraction, right_hundredths, truths
from disputed.tree import ALL_OF, BAD_NUMBERS, LEAF, NO_NODE, Node, UNFIT, WHOLE


def tell_proof(nodes, i):
    if i >= len(nodes):
        return [NO_NODE]
    return counted(proofs(nodes)[i])


def tell_leaves(nodes, i):
    if i >= len(nodes):
        return [NO_NODE]
    return counted(leaves_below(nodes)[i])


def tell_matter(nodes, i):
    if i >= len(nodes):
        return [NO_NODE]
    now = truths(nodes)[i]
    return counted([leaf for leaf in leaves_below(nodes)[i] if truths(with_flipped(nodes, leaf))[i] != now])


def tell_if_misread(nodes, i, j, misread):
    if misread > WHOLE:
        return [BAD_NUMBERS]
    if i >= len(nodes) or j >= len(nodes):
        return [NO_NODE]
    if j not in leaves_below(nodes)[i]:
        return [UNFIT]
    return [0] + fraction(right_hundredths(with_misread(nodes, j, misread), i))


def tell_if_flipped(nodes, i, j):
    if i >= len(nodes) or j >= len(nodes):
        return [NO_NODE]
    if j not in leaves_below(nodes)[i]:
        return [UNFIT]
    return [truths(with_flipped(nodes, j))[i]]


def tell_best(nodes, i):
    if i >= len(nodes):
        return [NO_NODE]
    below = leaves_below(nodes)[i]
    wins = [right_hundredths(with_misread(nodes, leaf, 0), i) for leaf in below]
    most = max(wins)
    if most <= right_hundredths(nodes, i):
        return [UNFIT]
    return [below[wins.index(most)]] + fraction(most)


def tell_depth(nodes, i):
    if i >= len(nodes):
        return [NO_NODE]
    return [depths(nodes)[i]]


def counted(row):
    return [len(row)] + row


def leaves_below(nodes):
    found = []
    for place, node in enumerate(nodes):
        if node.kind == LEAF:
            found.append([place])
        else:
            found.append(joined(node, found))
    return found


def proofs(nodes):
    true = truths(nodes)
    found = []
    for place, node in enumerate(nodes):
        if node.kind == LEAF:
            found.append([place])
        elif needs_all(node, true[place]):
            found.append(joined(node, found))
        else:
            alike = [found[child] for child in node.children if true[child] == true[place]]
            # Of like ones min takes the first.
            found.append(min(alike, key=len))
    return found


def needs_all(node, true):
    # All children must be shown for a true all-of and a some-of that is not true; else one is enough.
    return (node.kind == ALL_OF) == (true == 1)


def joined(node, rows):
    together = []
    for child in node.children:
        together.extend(rows[child])
    return together


def depths(nodes):
    found = []
    for node in nodes:
        if node.kind == LEAF:
            found.append(0)
        else:
            found.append(1 + max([found[child] for child in node.children]))
    return found


def with_misread(nodes, j, misread):
    changed = list(nodes)
    changed[j] = Node(LEAF, nodes[j].so, misread, [])
    return changed


def with_flipped(nodes, j):
    changed = list(nodes)
    changed[j] = Node(LEAF, 1 - nodes[j].so, nodes[j].misread, [])
    return changed
