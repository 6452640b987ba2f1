"""Writes calls as the list that is handed in, and reads the list that is given back."""

from disputed.judge import answers

CALLS = (
    "begin", "leaf", "all_of", "some", "pop", "nodeis", "flip", "wrong", "true", "held", "right",
    "pick", "way", "bysay", "bydoubt", "proof", "leaves", "matter", "ifwrong", "ifflip", "best", "depth",
)

BEGIN = ("begin",)
TOP = 4294967295


class Unchanging(list):
    """A list that tells when it is changed, if only for a while."""

    def refuse(self, *args, **kwargs):
        raise AssertionError("what was handed in has been changed")

    __setitem__ = __delitem__ = __iadd__ = __imul__ = refuse
    append = clear = extend = insert = pop = remove = reverse = sort = refuse


def written(calls):
    numbers = []
    for call in calls:
        numbers += [CALLS.index(call[0]), len(call) - 1, *call[1:], 0]
    return numbers


def read(told, count):
    found = []
    at = 0
    while at < len(told):
        behind = at + 1 + told[at]
        found.append(told[at + 1:behind])
        at = behind
    if at != len(told) or len(found) != count:
        raise AssertionError(f"not the answers of {count} calls: {told}")
    return found


def ask(*calls):
    """The answers of one line, call by call; every line is also held to what holds of all lines."""
    handed = written(calls)
    kept = list(handed)
    told = answers(handed)
    if handed != kept:
        raise AssertionError("the list that was handed in is another one now")
    if type(told) is not list or any(type(number) is not int for number in told):
        raise AssertionError(f"not a list of whole numbers: {told}")
    if answers(Unchanging(kept)) != told:
        raise AssertionError("answered otherwise the second time")
    return read(told, len(calls))


def ask_last(*calls):
    """The last answer of a line that begins with begin."""
    return ask(BEGIN, *calls)[-1]
