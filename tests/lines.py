"""Writes calls as the list that is handed in, reads the list that is given back, and puts trees for the tests.

A tree is the calls that put it. What is told of trees here is worked out plainly, child by child or by trying
everything, so that the program's answers can be held beside it.
"""

import itertools
import random
from fractions import Fraction

from disputed.judge import answers

CALLS = (
    "begin", "leaf", "all_of", "some", "pop", "nodeis", "flip", "wrong", "true", "held", "right",
    "pick", "way", "bysay", "bydoubt", "proof", "leaves", "matter", "ifwrong", "ifflip", "best", "depth",
)

BEGIN = ("begin",)
TOP = 4294967295
MOST_CALLS = 60
MOST_NUMBERS = 2000

# Two leaves beneath an all-of, one beneath a some-of, one free: 0, 1 in 2; 3 in 4; 5.
SMALL = (("leaf", 1, 10), ("leaf", 0, 25), ("all_of", 1, 0), ("leaf", 1, 40), ("some", 3), ("leaf", 0, 100))
FULL = tuple(("leaf", place % 2, place) for place in range(20))

# Five levels, all of it true: 9 of 8; 8 of 7, 6; 6 of 2, 5; 2 of 0, 1; 5 of 3, 4.
DEEP = (
    ("leaf", 1, 10), ("leaf", 1, 45), ("all_of", 0, 1),
    ("leaf", 0, 40), ("leaf", 1, 52), ("some", 3, 4),
    ("all_of", 2, 5), ("leaf", 0, 3), ("some", 7, 6), ("all_of", 8),
)

# A node above a node, nineteen steps long, with a single leaf.
CHAIN = (("leaf", 1, 30),) + tuple((("some", "all_of")[place % 2], place) for place in range(19))


class Unchanging(list):
    """A list that tells when it is changed, if only for a while."""

    def refuse(self, *args, **kwargs):
        raise AssertionError("what was handed in has been changed")

    __setitem__ = __delitem__ = __iadd__ = __imul__ = refuse
    append = clear = extend = insert = pop = remove = reverse = sort = refuse


def written(calls):
    numbers = []
    for call in calls:
        numbers += [CALLS.index(call[0]), len(call) - 1, *call[1:], 0]
    if not 1 <= len(calls) <= MOST_CALLS or len(numbers) > MOST_NUMBERS:
        raise AssertionError(f"no line may be so long: {len(calls)} calls, {len(numbers)} numbers")
    return numbers


def read(told, count):
    found = []
    at = 0
    while at < len(told):
        behind = at + 1 + told[at]
        found.append(told[at + 1:behind])
        at = behind
    if at != len(told) or len(found) != count:
        raise AssertionError(f"not the answers of {count} calls: {told}")
    for answer in found:
        if not answer or (min(answer) < 0 and len(answer) > 1):
            raise AssertionError(f"neither a refusal alone nor an answer: {answer}")
    return found


def ask(*calls):
    """The answers of one line, call by call; every line is also held to what holds of all lines."""
    handed = written(calls)
    kept = list(handed)
    told = answers(handed)
    if handed != kept:
        raise AssertionError("the list that was handed in is another one now")
    if type(told) is not list or any(type(number) is not int for number in told):
        raise AssertionError(f"not a list of whole numbers: {told}")
    if answers(Unchanging(kept)) != told:
        raise AssertionError("answered otherwise the second time")
    return read(told, len(calls))


def ask_last(*calls):
    """The last answer of a line that begins with begin."""
    return ask(BEGIN, *calls)[-1]


def ask_of(tree, asked):
    """The answers to all that is asked of a tree, in as many lines as it takes."""
    found = []
    ahead = 1 + len(tree)
    room = MOST_CALLS - ahead
    for at in range(0, len(asked), room):
        found += ask(BEGIN, *tree, *asked[at:at + room])[ahead:]
    return found


def after(calls):
    """What all calls answer of the nodes behind these, which children are free, and what number comes next."""
    shown = [("nodeis", place) for place in range(20)]
    judged = [("held", 2), ("true", 2), ("right", 4)]
    built = [("some", 5), ("all_of", 2, 4), ("pop",), ("leaf", 0, 0), ("pop",)]
    found = ask(BEGIN, *calls, *shown, *judged, *built)
    return found[1 + len(calls):]


def told(share):
    """A fraction's two numbers."""
    return [share.numerator, share.denominator]


def share_told(answer):
    zero, top, bottom = answer
    if zero != 0:
        raise AssertionError(f"no 0 ahead of the fraction: {answer}")
    return Fraction(top, bottom)


def some_tree(source, most):
    """Calls that put a tree of all kinds, each node beneath at most one other."""
    calls = []
    free = []
    for place in range(source.randint(1, most)):
        if not free or source.random() < 0.6:
            misread = source.choice((0, 100, 30, source.randint(0, 100), source.randint(0, 40)))
            calls.append(("leaf", source.randint(0, 1), misread))
        else:
            row = source.sample(free, source.randint(1, min(4, len(free))))
            calls.append((source.choice(("all_of", "some")), *row))
            free = [one for one in free if one not in row]
        free.append(place)
    return calls


def many_trees(most, count=300):
    source = random.Random(2026)
    return [some_tree(source, most) for turn in range(count)]


def holds(calls, place):
    name, *row = calls[place]
    if name == "leaf":
        return row[0] == 1
    return (all if name == "all_of" else any)([holds(calls, child) for child in row])


def read_as_so(call):
    name, so, misread = call
    return Fraction(100 - misread if so == 1 else misread, 100)


def held_share(calls, place):
    name, *row = calls[place]
    if name == "leaf":
        return read_as_so(calls[place])
    return (min if name == "all_of" else max)([held_share(calls, child) for child in row])


def right_share(calls, place):
    held = held_share(calls, place)
    return held if holds(calls, place) else 1 - held


def read_leaf(calls, place, picks):
    while calls[place][0] != "leaf":
        place = picks[place]
    return read_as_so(calls[place])


def all_picks(calls, name):
    """Every way in which who picks at these nodes may pick: which child at which node."""
    places = [place for place, call in enumerate(calls) if call[0] == name]
    for chosen in itertools.product(*[calls[place][1:] for place in places]):
        yield dict(zip(places, chosen))


def row_of(calls, picks):
    """Picks as a row: for each node which of its children, from 0."""
    return [calls[place][1:].index(picks[place]) if place in picks else 0 for place in range(len(calls))]


def leaves_below(calls, place):
    """The places of a node's leaves, in order."""
    name, *row = calls[place]
    if name == "leaf":
        return [place]
    return sum([leaves_below(calls, child) for child in row], [])


def steps_down(calls, place):
    name, *row = calls[place]
    if name == "leaf":
        return 0
    return 1 + max(steps_down(calls, child) for child in row)


def flipped(calls, leaf):
    return with_leaf(calls, leaf, 1 - calls[leaf][1], calls[leaf][2])


def misread_so(calls, leaf, misread):
    return with_leaf(calls, leaf, calls[leaf][1], misread)


def with_leaf(calls, leaf, so, misread):
    changed = list(calls)
    changed[leaf] = ("leaf", so, misread)
    return changed


def stays(calls, place, fixed):
    """Whether a node is as it is however its leaves were that are not among the fixed ones."""
    now = holds(calls, place)
    loose = [leaf for leaf in leaves_below(calls, place) if leaf not in fixed]
    for chosen in itertools.product((0, 1), repeat=len(loose)):
        changed = list(calls)
        for leaf, so in zip(loose, chosen):
            changed[leaf] = ("leaf", so, 0)
        if holds(changed, place) != now:
            return False
    return True
