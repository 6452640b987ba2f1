"""The calls from pick to depth: each refusal, which one comes first, and that none of them changes anything."""

import unittest

from tests.lines import BEGIN, CALLS, CHAIN, DEEP, FULL, SMALL, TOP, after, ask, ask_last, ask_of

PLAIN = ("pick", "way", "proof", "leaves", "matter", "best", "depth")
BY_PICKS = (("bysay", "some"), ("bydoubt", "all_of"))


class Refusals(unittest.TestCase):
    def check(self, calls, refused, number):
        with self.subTest(refused=refused):
            self.assertEqual(ask_last(*calls, refused), [number])
            self.assertEqual(after([*calls, refused]), after(calls))


class Refused(Refusals):
    def test_no_such_node(self):
        for name in PLAIN:
            for place in (6, 7, 19, 20, 21, TOP):
                self.check(SMALL, (name, place), -2)
            self.check((), (name, 0), -2)
            self.check(FULL, (name, 20), -2)
            self.check([*SMALL, ("pop",)], (name, 5), -2)

    def test_pick_of_a_leaf(self):
        for place in (0, 1, 3, 5):
            self.check(SMALL, ("pick", place), -33)
        self.check([("leaf", 1, 0)], ("pick", 0), -33)

    def test_best_where_none_would_help(self):
        self.check([("leaf", 1, 0)], ("best", 0), -33)
        self.check([("leaf", 1, 7), ("leaf", 1, 7), ("all_of", 0, 1)], ("best", 2), -33)
        self.check([*SMALL, ("wrong", 3, 0)], ("best", 4), -33)


class RefusedPicks(Refusals):
    # Every node has two children, so that each kind has a place to pick and one that is none.
    BOTH = (("leaf", 1, 10), ("leaf", 0, 20), ("all_of", 0, 1), ("leaf", 1, 30), ("leaf", 0, 40), ("some", 3, 4))

    def test_no_such_node(self):
        for name, kind in BY_PICKS:
            for place in (6, 19, 20, TOP):
                self.check(self.BOTH, (name, place, *[0] * 6), -2)
            self.check((), (name, 0), -2)

    def test_no_such_node_is_ahead_of_a_bad_row(self):
        for name, kind in BY_PICKS:
            for row in ((), [0] * 5, [0] * 7, [TOP] * 6, [TOP] * 22, [0] * 22):
                self.check(self.BOTH, (name, 6, *row), -2)
                self.check(self.BOTH, (name, TOP, *row), -2)

    def test_a_row_that_is_too_short_or_too_long(self):
        for name, kind in BY_PICKS:
            for count in (0, 1, 5, 7, 8, 20, 21, 22):
                self.check(self.BOTH, (name, 5, *[0] * count), -22)
            for count in (0, 19, 21, 22):
                self.check(FULL, (name, 3, *[0] * count), -22)
            for count in (0, 2, 22):
                self.check(FULL[:1], (name, 0, *[0] * count), -22)

    def test_a_row_for_each_node_is_not_refused(self):
        for name, kind in BY_PICKS:
            self.assertEqual(ask_last(*FULL, (name, 3, *[0] * 20)), [0, 97, 100])
            self.assertEqual(ask_last(*CHAIN, (name, 19, *[0] * 20)), [0, 7, 10])

    def test_a_place_that_is_none_of_its_childrens(self):
        # Refused at every node that is asked about, be it above, beside or below.
        for name, place in (("bysay", 5), ("bydoubt", 2)):
            for pick in (2, 3, 4, TOP):
                row = [0] * 6
                row[place] = pick
                for asked in range(6):
                    self.check(self.BOTH, (name, asked, *row), -22)

    def test_a_number_that_is_not_0_at_a_leaf_or_at_a_node_of_the_other_kind(self):
        for name, own in (("bysay", 5), ("bydoubt", 2)):
            for place in [place for place in range(6) if place != own]:
                for pick in (1, TOP):
                    row = [0] * 6
                    row[place] = pick
                    for asked in range(6):
                        self.check(self.BOTH, (name, asked, *row), -22)

    def test_each_place_of_its_children_is_not_refused(self):
        for name, kind in BY_PICKS:
            for count in (1, 2, 3, 4):
                tree = [("leaf", 1, place) for place in range(count)] + [(kind, *range(count))]
                for pick in range(count):
                    self.assertEqual(ask_last(*tree, (name, 0, *[0] * count, pick)), [0, 1, 1])
                self.check(tree, (name, count, *[0] * count, count), -22)


class RefusedIfs(Refusals):
    def test_ifwrong_too_much(self):
        for misread in (101, 102, TOP):
            self.check(SMALL, ("ifwrong", 2, 0, misread), -22)
            self.check(SMALL, ("ifwrong", 0, 0, misread), -22)

    def test_ifwrong_too_much_is_ahead_of_all_else(self):
        for i, j in ((6, 0), (2, 6), (TOP, TOP), (2, 3), (2, 2), (6, 2), (0, 1)):
            self.check(SMALL, ("ifwrong", i, j, 101), -22)
            self.check(SMALL, ("ifwrong", i, j, TOP), -22)
        self.check((), ("ifwrong", 0, 0, 101), -22)

    def test_there_is_no_i_or_no_j(self):
        for i, j in ((6, 0), (2, 6), (0, 6), (6, 6), (6, 2), (7, 3), (TOP, 0), (2, TOP), (TOP, TOP), (20, 21)):
            for misread in (0, 100):
                self.check(SMALL, ("ifwrong", i, j, misread), -2)
            self.check(SMALL, ("ifflip", i, j), -2)
        self.check((), ("ifwrong", 0, 0, 0), -2)
        self.check((), ("ifflip", 0, 0), -2)

    def test_j_is_none_of_its_leaves(self):
        no_leaf = ((2, 2), (2, 4), (4, 2), (0, 2), (4, 4))
        not_below = ((2, 3), (2, 5), (4, 0), (4, 5), (0, 1), (1, 0), (5, 3))
        for i, j in no_leaf + not_below:
            for misread in (0, 100):
                self.check(SMALL, ("ifwrong", i, j, misread), -33)
            self.check(SMALL, ("ifflip", i, j), -33)

    def test_a_node_within_is_none_of_its_leaves(self):
        for j in (2, 5, 6, 8, 9):
            self.check(DEEP, ("ifwrong", 9, j, 0), -33)
            self.check(DEEP, ("ifflip", 9, j), -33)
        # Above it, not below.
        self.check(DEEP, ("ifwrong", 6, 7, 0), -33)
        self.check(DEEP, ("ifflip", 6, 7), -33)

    def test_i_and_j_the_same_leaf_are_not_refused(self):
        self.assertEqual(ask_of(SMALL, [("ifwrong", 5, 5, 100), ("ifwrong", 5, 5, 0), ("ifflip", 5, 5)]),
                         [[0, 0, 1], [0, 1, 1], [1]])


def asked_of(tree):
    """Calls 11 to 21 at every node of a tree."""
    count = len(tree)
    leaves = [place for place in range(count) if tree[place][0] == "leaf"]
    asked = []
    for place in range(count):
        asked += [(name, place) for name in PLAIN]
        asked += [("bysay", place, *[0] * count), ("bydoubt", place, *[0] * count)]
        for leaf in leaves:
            asked += [("ifwrong", place, leaf, 0), ("ifwrong", place, leaf, 100), ("ifflip", place, leaf)]
    return asked


class NothingIsChanged(unittest.TestCase):
    def test_every_node_is_as_it_was(self):
        for tree in (SMALL, DEEP, [("leaf", 0, 100)]):
            before = after(tree)
            asked = asked_of(tree)
            self.assertEqual({call[0] for call in asked}, set(CALLS[11:]))
            for call in asked:
                self.assertEqual(after([*tree, call]), before, call)

    def test_each_call_answers_the_same_again(self):
        for tree in (SMALL, DEEP):
            for call in asked_of(tree):
                first, second = ask(BEGIN, *tree, call, call)[-2:]
                self.assertEqual(first, second, call)

    def test_each_call_answers_the_same_behind_all_others(self):
        for tree in (SMALL, DEEP):
            alone = [ask_last(*tree, call) for call in asked_of(tree)]
            self.assertEqual(ask_of(tree, asked_of(tree)), alone)

    def test_a_change_counts_from_then_on(self):
        found = ask(BEGIN, *DEEP, ("way", 9), ("proof", 9), ("best", 9), ("wrong", 4, 0), ("flip", 3), ("way", 9),
                    ("proof", 9), ("best", 9), ("matter", 9))
        self.assertEqual(found[11:], [[5, 9, 8, 6, 5, 4], [3, 0, 1, 4], [4, 11, 20], [52], [1], [5, 9, 8, 6, 2, 1],
                                      [3, 0, 1, 3], [1, 9, 10], [2, 0, 1]])

    def test_popped_nodes_need_no_pick(self):
        found = ask(BEGIN, *SMALL, ("pop",), ("bysay", 4, 0, 0, 0, 0, 0, 0), ("bysay", 4, 0, 0, 0, 0, 0), ("pop",),
                    ("some", 2, 3), ("leaves", 4), ("bydoubt", 4, 0, 0, 1, 0, 0), BEGIN, ("leaves", 0), ("depth", 4))
        self.assertEqual(found[7:], [[5], [-22], [0, 3, 5], [4], [4], [3, 1, 0, 3], [0, 9, 10], [0], [-2], [-2]])


if __name__ == "__main__":
    unittest.main()
