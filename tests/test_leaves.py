import unittest

from tests.lines import (
    BEGIN, CHAIN, DEEP, ask, ask_last, ask_of, flipped, holds, leaves_below, many_trees, misread_so, right_share, told)

# Not true: 8 of 7, 2, 6; 2 of 1, 0; 6 of 5, 4, 3. It would need all of it.
UNTRUE = (("leaf", 0, 10), ("leaf", 1, 20), ("all_of", 1, 0), ("leaf", 0, 30), ("leaf", 0, 40), ("leaf", 0, 5),
          ("some", 5, 4, 3), ("leaf", 1, 25), ("all_of", 7, 6, 2))


def every(name, tree):
    return ask_of(tree, [(name, place) for place in range(len(tree))])


class Leaves(unittest.TestCase):
    def test_of_each_node(self):
        self.assertEqual(every("leaves", DEEP), [
            [1, 0], [1, 1], [2, 0, 1], [1, 3], [1, 4], [2, 3, 4], [4, 0, 1, 3, 4], [1, 7], [5, 7, 0, 1, 3, 4],
            [5, 7, 0, 1, 3, 4]])

    def test_in_the_childrens_order_not_in_that_of_the_numbers(self):
        self.assertEqual(ask_of(UNTRUE, [("leaves", 8), ("leaves", 6)]), [[6, 7, 5, 4, 3, 1, 0], [3, 5, 4, 3]])

    def test_a_leaf_by_itself(self):
        self.assertEqual(ask_last(("leaf", 0, 100), ("leaves", 0)), [1, 0])

    def test_of_one_child(self):
        self.assertEqual(ask_last(("leaf", 1, 0), ("leaf", 0, 9), ("some", 1), ("leaves", 2)), [1, 1])

    def test_twenty_nodes(self):
        self.assertEqual(ask_last(*CHAIN, ("leaves", 19)), [1, 0])
        tree = [("leaf", 1, 0)] * 15
        tree += [("some", 14, 13, 12), ("all_of", 11, 10, 9, 8), ("some", 7, 6, 5, 4), ("some", 3, 2, 1, 0)]
        self.assertEqual(ask_last(*tree, ("all_of", 15, 16, 17, 18), ("leaves", 19)), [15, *range(14, -1, -1)])


class Proof(unittest.TestCase):
    def test_of_each_node(self):
        self.assertEqual(every("proof", DEEP), [
            [1, 0], [1, 1], [2, 0, 1], [1, 3], [1, 4], [1, 4], [3, 0, 1, 4], [1, 7], [3, 0, 1, 4], [3, 0, 1, 4]])

    def test_of_each_node_of_one_that_is_not_true(self):
        self.assertEqual(every("proof", UNTRUE), [
            [1, 0], [1, 1], [1, 0], [1, 3], [1, 4], [1, 5], [3, 5, 4, 3], [1, 7], [1, 0]])

    def test_a_leaf_by_itself(self):
        for so in (0, 1):
            self.assertEqual(ask_last(("leaf", so, 100), ("proof", 0)), [1, 0])

    def test_of_one_child(self):
        for name in ("all_of", "some"):
            for so in (0, 1):
                self.assertEqual(ask_last(("leaf", so, 0), ("leaf", so, 9), (name, 1), ("proof", 2)), [1, 1])

    def test_all_childrens_in_order(self):
        self.assertEqual(ask_last(*[("leaf", 1, 0)] * 4, ("all_of", 2, 0, 3, 1), ("proof", 4)), [4, 2, 0, 3, 1])
        self.assertEqual(ask_last(*[("leaf", 0, 0)] * 4, ("some", 2, 0, 3, 1), ("proof", 4)), [4, 2, 0, 3, 1])

    def test_of_like_ones_the_first(self):
        for name, so in (("some", 1), ("all_of", 0)):
            for row in ((0, 1, 2), (2, 1, 0), (1, 2)):
                with self.subTest(name=name, row=row):
                    self.assertEqual(ask_last(*[("leaf", so, 30)] * 3, (name, *row), ("proof", 3)), [1, row[0]])

    def test_of_like_ones_with_two_leaves_the_first(self):
        for outer, inner, so in (("some", "all_of", 1), ("all_of", "some", 0)):
            tree = [("leaf", so, 0)] * 6 + [(inner, 0, 1), (inner, 3, 2), (inner, 5, 4)]
            self.assertEqual(ask_last(*tree, (outer, 7, 6, 8), ("proof", 9)), [2, 3, 2])

    def test_the_fewest_leaves_though_it_stands_behind(self):
        for outer, inner, so in (("some", "all_of", 1), ("all_of", "some", 0)):
            tree = [("leaf", so, 0)] * 6 + [(inner, 0, 1, 2), (inner, 3, 4)]
            self.assertEqual(ask_last(*tree, (outer, 6, 7), ("proof", 8)), [2, 3, 4])
            self.assertEqual(ask_last(*tree, (outer, 6, 7, 5), ("proof", 8)), [1, 5])

    def test_the_fewest_of_the_proof_not_of_all_its_leaves(self):
        tree = [("leaf", 1, 0)] * 6 + [("all_of", 0, 1), ("some", 2, 3, 4, 5), ("some", 6, 7)]
        self.assertEqual(ask_last(*tree, ("proof", 8)), [1, 2])

    def test_only_of_a_child_that_is_as_it_is_itself(self):
        true = (("leaf", 0, 0), ("leaf", 1, 0), ("leaf", 1, 0), ("all_of", 1, 2), ("some", 0, 3))
        self.assertEqual(ask_last(*true, ("proof", 4)), [2, 1, 2])
        untrue = (("leaf", 1, 0), ("leaf", 0, 0), ("leaf", 0, 0), ("some", 1, 2), ("all_of", 0, 3))
        self.assertEqual(ask_last(*untrue, ("proof", 4)), [2, 1, 2])

    def test_misreading_does_not_count(self):
        self.assertEqual(ask_last(("leaf", 1, 100), ("leaf", 1, 0), ("some", 0, 1), ("proof", 2)), [1, 0])

    def test_twenty_nodes(self):
        self.assertEqual(ask_last(*CHAIN, ("proof", 19)), [1, 0])


class Matter(unittest.TestCase):
    def test_of_each_node(self):
        self.assertEqual(every("matter", DEEP), [
            [1, 0], [1, 1], [2, 0, 1], [1, 3], [1, 4], [1, 4], [3, 0, 1, 4], [1, 7], [3, 0, 1, 4], [3, 0, 1, 4]])

    def test_of_each_node_of_one_that_is_not_true(self):
        self.assertEqual(every("matter", UNTRUE), [
            [1, 0], [1, 1], [1, 0], [1, 3], [1, 4], [1, 5], [3, 5, 4, 3], [1, 7], [0]])

    def test_a_leaf_by_itself(self):
        for so in (0, 1):
            for misread in (0, 100):
                self.assertEqual(ask_last(("leaf", so, misread), ("matter", 0)), [1, 0])

    def test_of_one_child(self):
        self.assertEqual(ask_last(("leaf", 1, 0), ("all_of", 0), ("some", 1), ("matter", 2)), [1, 0])

    def test_none(self):
        self.assertEqual(ask_last(("leaf", 1, 0), ("leaf", 1, 0), ("some", 0, 1), ("matter", 2)), [0])
        self.assertEqual(ask_last(("leaf", 0, 0), ("leaf", 0, 0), ("all_of", 0, 1), ("matter", 2)), [0])

    def test_in_their_order_as_leaves(self):
        self.assertEqual(ask_last(*[("leaf", 1, 0)] * 4, ("all_of", 2, 0, 3, 1), ("matter", 4)), [4, 2, 0, 3, 1])

    def test_for_the_node_that_is_asked_about(self):
        tree = (("leaf", 1, 0), ("leaf", 1, 0), ("all_of", 1, 0), ("leaf", 1, 0), ("some", 2, 3))
        self.assertEqual(ask_of(tree, [("matter", 2), ("matter", 4)]), [[2, 1, 0], [0]])

    def test_some_in_the_proof_that_do_not_matter(self):
        tree = (("leaf", 1, 0), ("leaf", 1, 0), ("some", 0, 1), ("leaf", 1, 0), ("all_of", 2, 3))
        self.assertEqual(ask_of(tree, [("proof", 4), ("matter", 4)]), [[2, 0, 3], [1, 3]])


class IfWrong(unittest.TestCase):
    def test_at_the_root(self):
        self.assertEqual(ask_of(DEEP, [
            ("ifwrong", 9, 4, 0), ("ifwrong", 9, 4, 100), ("ifwrong", 9, 4, 50), ("ifwrong", 9, 4, 52),
            ("ifwrong", 9, 7, 100), ("ifwrong", 9, 7, 60), ("ifwrong", 9, 7, 0), ("ifwrong", 9, 0, 100),
        ]), [[0, 11, 20], [0, 2, 5], [0, 1, 2], [0, 12, 25], [0, 1, 1], [0, 3, 5], [0, 12, 25], [0, 3, 100]])

    def test_within(self):
        self.assertEqual(ask_of(DEEP, [("ifwrong", 2, 1, 5), ("ifwrong", 2, 0, 99), ("ifwrong", 5, 3, 75)]),
                         [[0, 9, 10], [0, 1, 100], [0, 3, 4]])

    def test_i_and_j_the_same_leaf(self):
        self.assertEqual(ask_of(DEEP, [("ifwrong", 0, 0, 0), ("ifwrong", 0, 0, 100), ("ifwrong", 3, 3, 30)]),
                         [[0, 1, 1], [0, 0, 1], [0, 7, 10]])

    def test_of_one_that_is_not_true(self):
        tree = (("leaf", 0, 20), ("leaf", 0, 35), ("some", 0, 1))
        self.assertEqual(ask_of(tree, [("ifwrong", 2, 1, 0), ("ifwrong", 2, 1, 100), ("ifwrong", 2, 0, 40)]),
                         [[0, 4, 5], [0, 0, 1], [0, 3, 5]])

    def test_who_is_right_stays_who_is_right(self):
        tree = (("leaf", 0, 20), ("leaf", 1, 35), ("all_of", 0, 1))
        self.assertEqual(ask_of(tree, [("ifwrong", 2, 0, 100), ("ifwrong", 2, 1, 100)]), [[0, 7, 20], [0, 1, 1]])


class IfFlip(unittest.TestCase):
    def test_at_the_root_and_within(self):
        self.assertEqual(ask_of(DEEP, [("ifflip", 9, leaf) for leaf in (7, 0, 1, 3, 4)]), [[1], [0], [0], [1], [0]])
        self.assertEqual(ask_of(DEEP, [("ifflip", 5, 3), ("ifflip", 5, 4), ("ifflip", 2, 0)]), [[1], [0], [0]])
        self.assertEqual(ask_of(UNTRUE, [("ifflip", 2, 0), ("ifflip", 6, 4), ("ifflip", 8, 0)]), [[1], [1], [0]])

    def test_i_and_j_the_same_leaf(self):
        self.assertEqual(ask_of(DEEP, [("ifflip", 0, 0), ("ifflip", 3, 3)]), [[0], [1]])

    def test_of_one_child(self):
        self.assertEqual(ask_last(("leaf", 1, 0), ("all_of", 0), ("ifflip", 1, 0)), [0])
        self.assertEqual(ask_last(("leaf", 0, 0), ("some", 0), ("ifflip", 1, 0)), [1])


class Best(unittest.TestCase):
    def test_of_each_node(self):
        self.assertEqual(every("best", DEEP), [
            [0, 1, 1], [1, 1, 1], [1, 9, 10], [3, 1, 1], [4, 1, 1], [4, 1, 1], [4, 11, 20], [7, 1, 1], [4, 11, 20],
            [4, 11, 20]])

    def test_of_one_that_is_not_true(self):
        self.assertEqual(ask_of(UNTRUE, [("best", 8), ("best", 6), ("best", 2)]), [[0, 1, 1], [4, 7, 10], [0, 1, 1]])

    def test_a_leaf_by_itself(self):
        for so in (0, 1):
            self.assertEqual(ask_last(("leaf", so, 1), ("best", 0)), [0, 1, 1])
            self.assertEqual(ask_last(("leaf", so, 100), ("best", 0)), [0, 1, 1])
            self.assertEqual(ask_last(("leaf", so, 0), ("best", 0)), [-33])

    def test_of_one_child(self):
        for name in ("all_of", "some"):
            self.assertEqual(ask_last(("leaf", 0, 0), ("leaf", 1, 9), (name, 1), ("best", 2)), [1, 1, 1])

    def test_of_two_that_would_help_as_much_the_first(self):
        for name, so in (("some", 1), ("all_of", 0)):
            for row in ((0, 1), (1, 0), (2, 1, 0)):
                with self.subTest(name=name, row=row):
                    self.assertEqual(ask_last(*[("leaf", so, 30)] * 3, (name, *row), ("best", 3)), [row[0], 1, 1])

    def test_the_first_of_those_that_help_the_most_behind_one_that_helps_less(self):
        tree = (("leaf", 1, 30), ("leaf", 1, 20), ("all_of", 0, 1), ("leaf", 1, 60), ("leaf", 1, 60), ("some", 2, 4, 3))
        self.assertEqual(ask_last(*tree, ("best", 5)), [4, 1, 1])

    def test_none_if_no_leaf_is_misread(self):
        tree = (("leaf", 1, 0), ("leaf", 0, 0), ("some", 0, 1), ("leaf", 0, 0), ("all_of", 2, 3))
        self.assertEqual(ask_of(tree, [("best", 4), ("best", 2)]), [[-33], [-33]])

    def test_none_if_two_are_just_as_bad(self):
        self.assertEqual(ask_last(("leaf", 1, 30), ("leaf", 1, 30), ("all_of", 0, 1), ("best", 2)), [-33])
        self.assertEqual(ask_last(("leaf", 0, 30), ("leaf", 0, 30), ("some", 0, 1), ("best", 2)), [-33])

    def test_none_though_one_would_help_as_much_as_now(self):
        self.assertEqual(ask_last(("leaf", 0, 100), ("leaf", 1, 50), ("some", 0, 1), ("best", 2)), [-33])

    def test_a_leaf_that_is_otherwise_would_harm(self):
        tree = (("leaf", 0, 80), ("leaf", 1, 50), ("some", 0, 1))
        self.assertEqual(ask(BEGIN, *tree, ("right", 2), ("ifwrong", 2, 0, 0), ("best", 2))[4:],
                         [[0, 4, 5], [0, 1, 2], [1, 1, 1]])

    def test_twenty_nodes(self):
        self.assertEqual(ask_last(*CHAIN, ("best", 19)), [0, 1, 1])


def proof_told(tree, place):
    name, *row = tree[place]
    if name == "leaf":
        return [place]
    proofs = [proof_told(tree, child) for child in row if holds(tree, child) == holds(tree, place)]
    if (name == "all_of") == holds(tree, place):
        return sum(proofs, [])
    return sorted(proofs, key=len)[0]


def best_told(tree, place):
    most, found = right_share(tree, place), [-33]
    for leaf in leaves_below(tree, place):
        share = right_share(misread_so(tree, leaf, 0), place)
        if share > most:
            most, found = share, [leaf, *told(share)]
    return found


class ManyTrees(unittest.TestCase):
    def check(self, name, expected):
        for tree in many_trees(20):
            self.assertEqual(every(name, tree), [expected(tree, place) for place in range(len(tree))], tree)

    def counted(self, rows):
        def told_with_count(tree, place):
            row = rows(tree, place)
            return [len(row), *row]
        return told_with_count

    def test_leaves(self):
        self.check("leaves", self.counted(leaves_below))

    def test_proof(self):
        self.check("proof", self.counted(proof_told))

    def test_best(self):
        self.check("best", best_told)

    def test_matter(self):
        def mattering(tree, place):
            now = holds(tree, place)
            return [leaf for leaf in leaves_below(tree, place) if holds(flipped(tree, leaf), place) != now]
        self.check("matter", self.counted(mattering))

    def test_what_would_be_is_what_is_once_it_is_so(self):
        for tree in many_trees(14, 100):
            for place in range(len(tree)):
                for leaf in leaves_below(tree, place):
                    self.assertEqual(ask_of(tree, [("ifflip", place, leaf)]),
                                     ask_of(flipped(tree, leaf), [("true", place)]), tree)
                    for misread in (0, 37, 100):
                        self.assertEqual(ask_of(tree, [("ifwrong", place, leaf, misread)]),
                                         ask_of(misread_so(tree, leaf, misread), [("right", place)]), tree)


if __name__ == "__main__":
    unittest.main()
