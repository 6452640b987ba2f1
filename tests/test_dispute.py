import itertools
import unittest
from fractions import Fraction

from tests.lines import BEGIN, ask, ask_last


def judged(*calls):
    """true, held and right of the last node."""
    last = len(calls) - 1
    return ask(BEGIN, *calls, ("true", last), ("held", last), ("right", last))[-3:]


class ALeaf(unittest.TestCase):
    def test_by_itself(self):
        self.assertEqual(judged(("leaf", 1, 10)), [[1], [0, 9, 10], [0, 9, 10]])
        self.assertEqual(judged(("leaf", 0, 10)), [[0], [0, 1, 10], [0, 9, 10]])

    def test_never_misread(self):
        self.assertEqual(judged(("leaf", 1, 0)), [[1], [0, 1, 1], [0, 1, 1]])
        self.assertEqual(judged(("leaf", 0, 0)), [[0], [0, 0, 1], [0, 1, 1]])

    def test_always_misread(self):
        self.assertEqual(judged(("leaf", 1, 100)), [[1], [0, 0, 1], [0, 0, 1]])
        self.assertEqual(judged(("leaf", 0, 100)), [[0], [0, 1, 1], [0, 0, 1]])

    def test_every_fraction_has_nothing_in_common(self):
        for misread in range(101):
            for so in (0, 1):
                right = Fraction(100 - misread, 100)
                held = right if so == 1 else 1 - right
                with self.subTest(so=so, misread=misread):
                    self.assertEqual(judged(("leaf", so, misread)), [
                        [so], [0, held.numerator, held.denominator], [0, right.numerator, right.denominator]])


class ANode(unittest.TestCase):
    def test_of_one_child(self):
        for name in ("all_of", "some"):
            with self.subTest(name=name):
                self.assertEqual(judged(("leaf", 1, 12), (name, 0)), [[1], [0, 22, 25], [0, 22, 25]])
                self.assertEqual(judged(("leaf", 0, 12), (name, 0)), [[0], [0, 3, 25], [0, 22, 25]])

    def test_all_of_is_true_if_all_are(self):
        for so in itertools.product((0, 1), repeat=4):
            leaves = [("leaf", one, 0) for one in so]
            self.assertEqual(judged(*leaves, ("all_of", 0, 1, 2, 3))[0], [1 if all(so) else 0])

    def test_some_of_is_true_if_one_is(self):
        for so in itertools.product((0, 1), repeat=4):
            leaves = [("leaf", one, 0) for one in so]
            self.assertEqual(judged(*leaves, ("some", 0, 1, 2, 3))[0], [1 if any(so) else 0])

    def test_all_of_is_held_as_often_as_the_least(self):
        leaves = [("leaf", 1, 10), ("leaf", 1, 30), ("leaf", 1, 20)]
        self.assertEqual(judged(*leaves, ("all_of", 0, 1, 2)), [[1], [0, 7, 10], [0, 7, 10]])

    def test_some_of_is_held_as_often_as_the_greatest(self):
        leaves = [("leaf", 0, 10), ("leaf", 0, 30), ("leaf", 0, 20)]
        self.assertEqual(judged(*leaves, ("some", 0, 1, 2)), [[0], [0, 3, 10], [0, 7, 10]])

    def test_two_children_just_as_good(self):
        self.assertEqual(judged(("leaf", 1, 30), ("leaf", 0, 70), ("all_of", 0, 1)), [[0], [0, 7, 10], [0, 3, 10]])
        self.assertEqual(judged(("leaf", 1, 30), ("leaf", 0, 70), ("some", 0, 1)), [[1], [0, 7, 10], [0, 7, 10]])
        self.assertEqual(judged(("leaf", 1, 30), ("leaf", 1, 30), ("some", 1, 0)), [[1], [0, 7, 10], [0, 7, 10]])

    def test_a_true_claim_that_is_held_less_than_half_the_time(self):
        self.assertEqual(judged(("leaf", 1, 10), ("leaf", 1, 80), ("all_of", 0, 1)), [[1], [0, 1, 5], [0, 1, 5]])
        self.assertEqual(judged(("leaf", 1, 100), ("leaf", 0, 4), ("some", 0, 1)), [[1], [0, 1, 25], [0, 1, 25]])

    def test_a_false_claim_that_is_held_more_than_half_the_time(self):
        self.assertEqual(judged(("leaf", 0, 10), ("leaf", 0, 80), ("some", 0, 1)), [[0], [0, 4, 5], [0, 1, 5]])

    def test_one_that_is_another_ones_child(self):
        found = ask(BEGIN, ("leaf", 1, 5), ("leaf", 0, 15), ("all_of", 0, 1), ("leaf", 1, 35), ("some", 2, 3),
                    ("true", 2), ("held", 2), ("right", 2), ("true", 4), ("held", 4), ("right", 4),
                    ("true", 0), ("held", 0), ("right", 1))
        self.assertEqual(found[6:], [[0], [0, 3, 20], [0, 17, 20], [1], [0, 13, 20], [0, 13, 20],
                                     [1], [0, 19, 20], [0, 17, 20]])

    def test_what_is_no_child_of_it_does_not_count(self):
        found = ask(BEGIN, ("leaf", 0, 0), ("leaf", 1, 20), ("all_of", 1), ("leaf", 0, 0), ("held", 2), ("true", 2))
        self.assertEqual(found[5:], [[0, 4, 5], [1]])

    def test_several_levels(self):
        found = judged(
            ("leaf", 1, 10), ("leaf", 1, 45), ("all_of", 0, 1),
            ("leaf", 0, 40), ("leaf", 1, 52), ("some", 3, 4),
            ("all_of", 2, 5), ("leaf", 0, 3), ("some", 7, 6), ("all_of", 8))
        self.assertEqual(found, [[1], [0, 12, 25], [0, 12, 25]])

    def test_asking_changes_nothing(self):
        calls = (("leaf", 1, 5), ("leaf", 0, 15), ("some", 0, 1))
        asked = (("true", 2), ("held", 2), ("right", 2), ("nodeis", 2), ("nodeis", 0))
        found = ask(BEGIN, *calls, *asked, *asked)
        self.assertEqual(found[4:9], found[9:])

    def test_the_newest_change_counts(self):
        self.assertEqual(ask_last(("leaf", 1, 5), ("all_of", 0), ("held", 1), ("wrong", 0, 50), ("held", 1)), [0, 1, 2])
        self.assertEqual(ask_last(("leaf", 1, 5), ("all_of", 0), ("held", 1), ("flip", 0), ("held", 1)), [0, 1, 20])


if __name__ == "__main__":
    unittest.main()
