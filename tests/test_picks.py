import unittest

from tests.lines import (
    BEGIN, CHAIN, DEEP, all_picks, ask, ask_last, ask_of, held_share, many_trees, read_leaf, row_of, steps_down, told)

# Not true: 6 of 2, 5; 2 of 0, 1; 5 of 3, 4. The numbers of a node's children go down.
DOWN = (("leaf", 0, 20), ("leaf", 1, 35), ("some", 1, 0), ("leaf", 0, 15), ("leaf", 1, 70), ("all_of", 4, 3),
        ("all_of", 5, 2))


class Pick(unittest.TestCase):
    def test_at_each_node(self):
        self.assertEqual(ask_of(DEEP, [("pick", place) for place in range(10)]),
                         [[-33], [-33], [1], [-33], [-33], [4], [5], [-33], [6], [8]])
        self.assertEqual(ask_of(DOWN, [("pick", place) for place in (2, 5, 6)]), [[1], [3], [5]])

    def test_the_least_at_all_of_and_the_greatest_at_some_of(self):
        leaves = [("leaf", 1, 20), ("leaf", 1, 60), ("leaf", 0, 90), ("leaf", 0, 5)]
        self.assertEqual(ask_last(*leaves, ("all_of", 0, 1, 2, 3), ("pick", 4)), [3])
        self.assertEqual(ask_last(*leaves, ("some", 0, 1, 2, 3), ("pick", 4)), [2])
        self.assertEqual(ask_last(*leaves, ("all_of", 2, 0, 1), ("pick", 4)), [1])
        self.assertEqual(ask_last(*leaves, ("some", 3, 1, 0), ("pick", 4)), [0])

    def test_of_one_child(self):
        for name in ("all_of", "some"):
            self.assertEqual(ask_last(("leaf", 0, 0), ("leaf", 1, 3), (name, 1), ("pick", 2)), [1])

    def test_of_two_just_as_good_the_first(self):
        alike = (("leaf", 1, 30), ("leaf", 0, 70), ("leaf", 1, 30))
        for name in ("all_of", "some"):
            for row in ((0, 1, 2), (2, 1, 0), (1, 0), (2, 0), (1, 2, 0)):
                with self.subTest(name=name, row=row):
                    self.assertEqual(ask_last(*alike, (name, *row), ("pick", 3)), [row[0]])

    def test_of_two_just_as_good_the_first_behind_a_worse_one(self):
        leaves = (("leaf", 1, 0), ("leaf", 1, 50), ("leaf", 0, 50), ("leaf", 0, 0))
        self.assertEqual(ask_last(*leaves, ("all_of", 0, 2, 1), ("pick", 4)), [2])
        self.assertEqual(ask_last(*leaves, ("some", 3, 2, 1), ("pick", 4)), [2])

    def test_how_often_it_is_held_counts_not_what_is_true(self):
        leaves = (("leaf", 1, 100), ("leaf", 0, 100))
        self.assertEqual(ask_last(*leaves, ("some", 0, 1), ("pick", 2)), [1])
        self.assertEqual(ask_last(*leaves, ("all_of", 1, 0), ("pick", 2)), [0])


class Way(unittest.TestCase):
    def test_from_each_node(self):
        self.assertEqual(ask_of(DEEP, [("way", place) for place in range(10)]), [
            [1, 0], [1, 1], [2, 2, 1], [1, 3], [1, 4], [2, 5, 4], [3, 6, 5, 4], [1, 7], [4, 8, 6, 5, 4],
            [5, 9, 8, 6, 5, 4]])
        self.assertEqual(ask_of(DOWN, [("way", 6), ("way", 2)]), [[3, 6, 5, 3], [2, 2, 1]])

    def test_a_leaf_by_itself(self):
        self.assertEqual(ask_last(("leaf", 0, 100), ("way", 0)), [1, 0])

    def test_of_one_child(self):
        self.assertEqual(ask_last(("leaf", 0, 7), ("all_of", 0), ("way", 1)), [2, 1, 0])

    def test_of_two_just_as_good_by_the_first(self):
        tree = (("leaf", 1, 30), ("leaf", 1, 30), ("some", 1, 0), ("leaf", 0, 70), ("all_of", 2, 3))
        self.assertEqual(ask_last(*tree, ("way", 4)), [3, 4, 2, 1])

    def test_through_twenty_nodes(self):
        self.assertEqual(ask_last(*CHAIN, ("way", 19)), [20, *range(19, -1, -1)])


class Depth(unittest.TestCase):
    def test_of_each_node(self):
        self.assertEqual(ask_of(DEEP, [("depth", place) for place in range(10)]),
                         [[0], [0], [1], [0], [0], [1], [2], [0], [3], [4]])

    def test_a_leaf_by_itself(self):
        self.assertEqual(ask_last(("leaf", 1, 0), ("depth", 0)), [0])

    def test_the_longest_way_wherever_it_stands(self):
        leaves = (("leaf", 1, 0), ("leaf", 1, 0), ("leaf", 1, 0), ("some", 0), ("all_of", 3))
        for row in ((1, 4, 2), (4, 1, 2), (1, 2, 4)):
            self.assertEqual(ask_last(*leaves, ("some", *row), ("depth", 5)), [3])

    def test_the_longest_way_not_the_one_that_is_picked(self):
        tree = (("leaf", 1, 0), ("leaf", 0, 50), ("some", 1), ("some", 0, 2))
        self.assertEqual(ask(BEGIN, *tree, ("way", 3), ("depth", 3))[5:], [[2, 3, 0], [2]])

    def test_through_twenty_nodes(self):
        self.assertEqual(ask_last(*CHAIN, ("depth", 19)), [19])
        self.assertEqual(ask_last(*CHAIN, ("depth", 7)), [7])


class BySay(unittest.TestCase):
    def test_at_the_root(self):
        self.assertEqual(ask_of(DEEP, [
            ("bysay", 9, 0, 0, 0, 0, 0, 0, 0, 0, 0, 0), ("bysay", 9, 0, 0, 0, 0, 0, 1, 0, 0, 0, 0),
            ("bysay", 9, 0, 0, 0, 0, 0, 0, 0, 0, 1, 0), ("bysay", 9, 0, 0, 0, 0, 0, 1, 0, 0, 1, 0),
        ]), [[0, 3, 100], [0, 3, 100], [0, 2, 5], [0, 12, 25]])

    def test_within_and_at_a_leaf(self):
        rows = ([0, 0, 0, 0, 0, 0, 0, 0, 0, 0], [0, 0, 0, 0, 0, 1, 0, 0, 1, 0])
        for place, first, second in ((5, [0, 2, 5], [0, 12, 25]), (6, [0, 2, 5], [0, 12, 25]),
                                     (2, [0, 11, 20], [0, 11, 20]), (7, [0, 3, 100], [0, 3, 100]),
                                     (0, [0, 9, 10], [0, 9, 10])):
            with self.subTest(place=place):
                self.assertEqual(ask_of(DEEP, [("bysay", place, *row) for row in rows]), [first, second])

    def test_the_other_picks_as_well_as_can_be(self):
        tree = (("leaf", 1, 20), ("leaf", 1, 60), ("leaf", 1, 40), ("all_of", 0, 1, 2))
        self.assertEqual(ask_last(*tree, ("bysay", 3, 0, 0, 0, 0)), [0, 2, 5])

    def test_the_last_of_four(self):
        tree = [("leaf", 1, misread) for misread in (0, 50, 100, 64)] + [("some", 3, 2, 1, 0)]
        self.assertEqual(ask_of(tree, [("bysay", 4, 0, 0, 0, 0, pick) for pick in (0, 1, 2, 3, 4)]),
                         [[0, 9, 25], [0, 0, 1], [0, 1, 2], [0, 1, 1], [-22]])

    def test_a_leaf_by_itself(self):
        self.assertEqual(ask_last(("leaf", 0, 100), ("bysay", 0, 0)), [0, 1, 1])
        self.assertEqual(ask_last(("leaf", 1, 100), ("bysay", 0, 0)), [0, 0, 1])

    def test_twenty_nodes(self):
        tree = [("leaf", 1, place) for place in range(15)]
        tree += [("some", 0, 1, 2, 3), ("some", 4, 5, 6, 7), ("all_of", 8, 9), ("some", 10, 11, 12, 13),
                 ("all_of", 15, 16, 17, 18)]
        row = [0] * 15 + [3, 2, 0, 1, 0]
        self.assertEqual(ask_last(*tree, ("bysay", 19, *row)), [0, 89, 100])
        self.assertEqual(ask_last(*tree, ("bysay", 15, *row)), [0, 97, 100])


class ByDoubt(unittest.TestCase):
    def test_at_the_root(self):
        self.assertEqual(ask_of(DEEP, [
            ("bydoubt", 9, 0, 0, 0, 0, 0, 0, 0, 0, 0, 0), ("bydoubt", 9, 0, 0, 1, 0, 0, 0, 0, 0, 0, 0),
            ("bydoubt", 9, 0, 0, 0, 0, 0, 0, 1, 0, 0, 0), ("bydoubt", 9, 0, 0, 1, 0, 0, 0, 1, 0, 0, 0),
        ]), [[0, 9, 10], [0, 11, 20], [0, 12, 25], [0, 12, 25]])

    def test_within_and_at_a_leaf(self):
        rows = ([0, 0, 0, 0, 0, 0, 0, 0, 0, 0], [0, 0, 1, 0, 0, 0, 1, 0, 0, 0])
        for place, first, second in ((2, [0, 9, 10], [0, 11, 20]), (6, [0, 9, 10], [0, 12, 25]),
                                     (5, [0, 12, 25], [0, 12, 25]), (3, [0, 2, 5], [0, 2, 5])):
            with self.subTest(place=place):
                self.assertEqual(ask_of(DEEP, [("bydoubt", place, *row) for row in rows]), [first, second])

    def test_the_other_picks_as_well_as_can_be(self):
        tree = (("leaf", 1, 60), ("leaf", 1, 20), ("leaf", 1, 40), ("some", 0, 1, 2))
        self.assertEqual(ask_last(*tree, ("bydoubt", 3, 0, 0, 0, 0)), [0, 4, 5])

    def test_the_last_of_four(self):
        tree = [("leaf", 0, misread) for misread in (0, 50, 100, 64)] + [("all_of", 3, 2, 1, 0)]
        self.assertEqual(ask_of(tree, [("bydoubt", 4, 0, 0, 0, 0, pick) for pick in (0, 1, 2, 3, 4)]),
                         [[0, 16, 25], [0, 1, 1], [0, 1, 2], [0, 0, 1], [-22]])

    def test_a_leaf_by_itself(self):
        self.assertEqual(ask_last(("leaf", 0, 12), ("bydoubt", 0, 0)), [0, 3, 25])


class ManyTrees(unittest.TestCase):
    def test_the_first_of_the_best_is_picked(self):
        for tree in many_trees(20):
            expected = []
            for place, (name, *row) in enumerate(tree):
                if name == "leaf":
                    expected.append([-33])
                    continue
                shares = [held_share(tree, child) for child in row]
                best = min(shares) if name == "all_of" else max(shares)
                expected.append([row[shares.index(best)]])
            self.assertEqual(ask_of(tree, [("pick", place) for place in range(len(tree))]), expected, tree)

    def test_the_way_goes_by_what_is_picked(self):
        for tree in many_trees(20):
            places = range(len(tree))
            picks = [answer[0] for answer in ask_of(tree, [("pick", place) for place in places])]
            for place, answer in zip(places, ask_of(tree, [("way", place) for place in places])):
                way = [place]
                while picks[way[-1]] != -33:
                    way.append(picks[way[-1]])
                self.assertEqual(answer, [len(way), *way], tree)

    def test_the_ways_leaf_is_held_as_often(self):
        for tree in many_trees(20):
            for place, answer in enumerate(ask_of(tree, [("way", place) for place in range(len(tree))])):
                self.assertEqual(tree[answer[-1]][0], "leaf")
                self.assertEqual(held_share(tree, answer[-1]), held_share(tree, place), tree)

    def test_how_deep(self):
        for tree in many_trees(20):
            self.assertEqual(ask_of(tree, [("depth", place) for place in range(len(tree))]),
                             [[steps_down(tree, place)] for place in range(len(tree))], tree)

    def test_told_picks_as_if_all_of_the_others_were_tried(self):
        for tree in many_trees(10, 150):
            said, doubted = list(all_picks(tree, "some")), list(all_picks(tree, "all_of"))
            for place in range(len(tree)):
                asked = [("bysay", place, *row_of(tree, picks)) for picks in said]
                asked += [("bydoubt", place, *row_of(tree, picks)) for picks in doubted]
                expected = [min(read_leaf(tree, place, {**picks, **other}) for other in doubted) for picks in said]
                expected += [max(read_leaf(tree, place, {**picks, **other}) for other in said) for picks in doubted]
                self.assertEqual(ask_of(tree, asked), [[0, *told(share)] for share in expected], tree)


if __name__ == "__main__":
    unittest.main()
