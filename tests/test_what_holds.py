"""What the document says under 'What holds', sentence by sentence, over many trees and at each of their nodes."""

import itertools
import unittest
from fractions import Fraction

from tests.lines import (
    all_picks, ask_of, holds, leaves_below, many_trees, misread_so, read_leaf, right_share, row_of, share_told, stays,
    told)


def places_of(tree):
    return range(len(tree))


def every(name, tree):
    return ask_of(tree, [(name, place) for place in places_of(tree)])


def rows_told(name, tree):
    """What way, proof, leaves and matter answer at each node, without the count."""
    answers = every(name, tree)
    for answer in answers:
        if answer[0] != len(answer) - 1:
            raise AssertionError(f"not so many: {answer}")
    return [answer[1:] for answer in answers]


def held_by_all_picks(tree, place):
    """The most that who is for it can be sure of, and the least that who is against it can."""
    said, doubted = list(all_picks(tree, "some")), list(all_picks(tree, "all_of"))
    sure = max(min(read_leaf(tree, place, {**one, **other}) for other in doubted) for one in said)
    kept = min(max(read_leaf(tree, place, {**one, **other}) for one in said) for other in doubted)
    return sure, kept


class Judged(unittest.TestCase):
    def test_as_if_all_picks_were_tried(self):
        for tree in many_trees(11):
            place = len(tree) - 1
            sure, kept = held_by_all_picks(tree, place)
            self.assertEqual(sure, kept, tree)
            true = holds(tree, place)
            right = sure if true else 1 - sure
            self.assertEqual(ask_of(tree, [("true", place), ("held", place), ("right", place)]),
                             [[1 if true else 0], [0, *told(sure)], [0, *told(right)]], tree)

    def test_who_is_right_always_wins_if_no_leaf_is_misread(self):
        for tree in many_trees(20):
            plain = [("leaf", call[1], 0) if call[0] == "leaf" else call for call in tree]
            true = [1 if holds(plain, place) else 0 for place in places_of(plain)]
            self.assertEqual(every("true", plain), [[one] for one in true], plain)
            self.assertEqual(every("held", plain), [[0, one, 1] for one in true], plain)
            self.assertEqual(every("right", plain), [[0, 1, 1]] * len(plain), plain)
            self.assertEqual(every("best", plain), [[-33]] * len(plain), plain)

    def test_who_is_right_wins_as_often_as_the_worst_leaf_is_read_right(self):
        for tree in many_trees(20):
            for place, answer in enumerate(every("right", tree)):
                worst = max(tree[leaf][2] for leaf in leaves_below(tree, place))
                self.assertGreaterEqual(share_told(answer), Fraction(100 - worst, 100), tree)


class Picks(unittest.TestCase):
    def test_by_no_picks_of_who_is_for_it_is_it_held_more_often(self):
        for tree in many_trees(12, 200):
            rows = [row_of(tree, picks) for picks in all_picks(tree, "some")]
            for place, answer in enumerate(every("held", tree)):
                shares = [share_told(one) for one in ask_of(tree, [("bysay", place, *row) for row in rows])]
                self.assertEqual(max(shares), share_told(answer), tree)

    def test_by_no_picks_of_who_is_against_it_is_it_held_less_often(self):
        for tree in many_trees(12, 200):
            rows = [row_of(tree, picks) for picks in all_picks(tree, "all_of")]
            for place, answer in enumerate(every("held", tree)):
                shares = [share_told(one) for one in ask_of(tree, [("bydoubt", place, *row) for row in rows])]
                self.assertEqual(min(shares), share_told(answer), tree)

    def test_by_what_is_picked_it_is_held_as_often_as_told(self):
        for tree in many_trees(20):
            picks = [answer[0] for answer in every("pick", tree)]
            for call, name in (("bysay", "some"), ("bydoubt", "all_of")):
                row = row_of(tree, {place: picks[place] for place in places_of(tree) if tree[place][0] == name})
                self.assertEqual(ask_of(tree, [(call, place, *row) for place in places_of(tree)]), every("held", tree))


class Proofs(unittest.TestCase):
    def test_however_all_other_leaves_were_it_would_be_as_it_is(self):
        for tree in many_trees(14):
            for place, proof in enumerate(rows_told("proof", tree)):
                self.assertTrue(stays(tree, place, proof), (tree, place))

    def test_no_fewer_leaves_do_that(self):
        for tree in many_trees(12):
            for place, proof in enumerate(rows_told("proof", tree)):
                # With fewer than one less it would hold with one less too.
                for fewer in itertools.combinations(leaves_below(tree, place), len(proof) - 1):
                    self.assertFalse(stays(tree, place, fewer), (tree, place, fewer))

    def test_the_proof_is_of_its_leaves_in_their_order(self):
        for tree in many_trees(20):
            for own, proof in zip(rows_told("leaves", tree), rows_told("proof", tree)):
                self.assertEqual(proof, [leaf for leaf in own if leaf in proof], tree)

    def test_what_matters_is_in_the_proof(self):
        for tree in many_trees(20):
            for matter, proof in zip(rows_told("matter", tree), rows_told("proof", tree)):
                self.assertEqual([leaf for leaf in matter if leaf not in proof], [], tree)

    def test_what_matters_makes_it_otherwise_and_nothing_else_does(self):
        for tree in many_trees(14):
            matters = rows_told("matter", tree)
            for place, own in enumerate(rows_told("leaves", tree)):
                now = 1 if holds(tree, place) else 0
                for leaf, (would,) in zip(own, ask_of(tree, [("ifflip", place, leaf) for leaf in own])):
                    self.assertEqual(would != now, leaf in matters[place], (tree, place, leaf))


class ReadBetter(unittest.TestCase):
    def test_where_it_is_as_the_claim_never_harms_and_where_otherwise_never_helps(self):
        steps = (0, 1, 30, 50, 77, 99, 100)
        for tree in many_trees(14, 150):
            for place in places_of(tree):
                for leaf in leaves_below(tree, place):
                    asked = [("ifwrong", place, leaf, misread) for misread in steps]
                    shares = [share_told(answer) for answer in ask_of(tree, asked)]
                    self.assertEqual(shares, [right_share(misread_so(tree, leaf, step), place) for step in steps])
                    as_the_claim = (tree[leaf][1] == 1) == holds(tree, place)
                    self.assertEqual(shares, sorted(shares, reverse=as_the_claim), (tree, place, leaf))

    def test_best_is_as_the_claim_and_as_good_as_told(self):
        for tree in many_trees(20):
            rights = [share_told(answer) for answer in every("right", tree)]
            for place, answer in enumerate(every("best", tree)):
                if answer == [-33]:
                    continue
                leaf, top, bottom = answer
                self.assertIn(leaf, leaves_below(tree, place))
                self.assertEqual(tree[leaf][1] == 1, holds(tree, place), tree)
                self.assertGreater(Fraction(top, bottom), rights[place], tree)
                self.assertEqual(ask_of(tree, [("ifwrong", place, leaf, 0)]), [[0, top, bottom]], tree)


if __name__ == "__main__":
    unittest.main()
