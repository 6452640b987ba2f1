import unittest

from tests.lines import BEGIN, CHAIN, FULL, SMALL, TOP, after, ask, ask_last


class Leaf(unittest.TestCase):
    def test_its_number(self):
        self.assertEqual(ask(BEGIN, ("leaf", 1, 0), ("leaf", 0, 100), ("leaf", 1, 50)), [[0], [0], [1], [2]])

    def test_what_it_is(self):
        for so in (0, 1):
            for misread in (0, 1, 50, 99, 100):
                with self.subTest(so=so, misread=misread):
                    self.assertEqual(ask_last(("leaf", so, misread), ("nodeis", 0)), [0, so, misread])

    def test_twenty_and_one_more(self):
        self.assertEqual(ask_last(*FULL), [19])
        self.assertEqual(ask_last(*FULL, ("leaf", 1, 0)), [-28])
        self.assertEqual(ask_last(*FULL, ("leaf", 1, 0), ("pop",), ("leaf", 1, 0)), [19])


class AllOfAndSome(unittest.TestCase):
    def test_one_to_four_children_in_order(self):
        leaves = [("leaf", 1, 0)] * 5
        for name, kind in (("all_of", 1), ("some", 2)):
            for row in ((0,), (4,), (1, 0), (4, 2, 3), (3, 1, 4, 0), (0, 1, 2, 3)):
                with self.subTest(name=name, row=row):
                    self.assertEqual(ask_last(*leaves, (name, *row)), [5])
                    self.assertEqual(ask_last(*leaves, (name, *row), ("nodeis", 5)), [kind, *row])

    def test_children_that_have_children(self):
        found = ask(BEGIN, *SMALL, ("some", 4, 5, 2), ("all_of", 6), ("nodeis", 6), ("nodeis", 7))
        self.assertEqual(found[7:], [[6], [7], [2, 4, 5, 2], [1, 6]])

    def test_the_twentieth_and_one_more(self):
        for name in ("all_of", "some"):
            with self.subTest(name=name):
                self.assertEqual(ask_last(*FULL[:19], (name, 0, 18)), [19])
                self.assertEqual(ask_last(*FULL, (name, 0, 19)), [-28])
                self.assertEqual(ask_last(*FULL, (name, 0), ("pop",), (name, 0)), [19])

    def test_a_chain_of_twenty(self):
        found = ask(BEGIN, *CHAIN, ("nodeis", 19), ("true", 19), ("held", 19), ("right", 19), ("some", 19))
        self.assertEqual(found[21:], [[2, 18], [1], [0, 7, 10], [0, 7, 10], [-28]])


class Pop(unittest.TestCase):
    def test_how_many_are_left(self):
        found = ask(BEGIN, *SMALL, *[("pop",)] * 7)
        self.assertEqual(found[7:], [[5], [4], [3], [2], [1], [0], [-6]])

    def test_the_last_one_is_gone_and_no_other(self):
        found = ask(BEGIN, ("leaf", 1, 1), ("leaf", 0, 2), ("pop",), ("nodeis", 0), ("nodeis", 1), ("leaf", 1, 3),
                    ("nodeis", 1))
        self.assertEqual(found[3:], [[1], [0, 1, 1], [-2], [1], [0, 1, 3]])

    def test_what_was_its_child_may_be_taken_again(self):
        for name in ("all_of", "some"):
            with self.subTest(name=name):
                found = ask(BEGIN, ("leaf", 1, 1), ("leaf", 0, 2), (name, 0, 1), ("some", 1), ("pop",), ("some", 1),
                            ("all_of", 0), ("some", 0))
                self.assertEqual(found[3:], [[2], [-22], [2], [2], [3], [-22]])

    def test_only_the_popped_ones_children_are_free(self):
        found = ask(BEGIN, *SMALL[:5], ("pop",), ("all_of", 0), ("all_of", 1), ("all_of", 3))
        self.assertEqual(found[6:], [[4], [-22], [-22], [4]])

    def test_a_number_that_was_a_childs_is_free_when_it_comes_again(self):
        found = ask(BEGIN, ("leaf", 1, 1), ("leaf", 0, 2), ("some", 1, 0), ("pop",), ("pop",), ("leaf", 1, 3),
                    ("all_of", 1), ("nodeis", 2))
        self.assertEqual(found[4:], [[2], [1], [1], [2], [1, 1]])


class Flip(unittest.TestCase):
    def test_it_is_otherwise_from_now_on(self):
        found = ask(BEGIN, ("leaf", 1, 10), ("leaf", 0, 20), ("flip", 0), ("nodeis", 0), ("flip", 1), ("nodeis", 1),
                    ("flip", 0), ("nodeis", 0), ("nodeis", 1))
        self.assertEqual(found[3:], [[0], [0, 0, 10], [1], [0, 1, 20], [1], [0, 1, 10], [0, 1, 20]])

    def test_a_leaf_that_is_a_child(self):
        found = ask(BEGIN, *SMALL, ("true", 2), ("held", 2), ("flip", 1), ("true", 2), ("held", 2), ("nodeis", 2))
        self.assertEqual(found[7:], [[0], [0, 1, 4], [1], [1], [0, 3, 4], [1, 1, 0]])


class Wrong(unittest.TestCase):
    def test_it_answers_how_much_it_was(self):
        found = ask(BEGIN, ("leaf", 1, 10), ("wrong", 0, 100), ("nodeis", 0), ("wrong", 0, 0), ("nodeis", 0),
                    ("wrong", 0, 0), ("wrong", 0, 55), ("nodeis", 0))
        self.assertEqual(found[2:], [[10], [0, 1, 100], [100], [0, 1, 0], [0], [0], [0, 1, 55]])

    def test_a_leaf_that_is_a_child(self):
        found = ask(BEGIN, *SMALL, ("held", 4), ("wrong", 3, 5), ("held", 4), ("nodeis", 0))
        self.assertEqual(found[7:], [[0, 3, 5], [40], [0, 19, 20], [0, 1, 10]])


class Refused(unittest.TestCase):
    def check(self, calls, refused, number):
        with self.subTest(refused=refused):
            self.assertEqual(ask_last(*calls, refused), [number])
            self.assertEqual(after([*calls, refused]), after(calls))

    def test_leaf(self):
        for so, misread in ((2, 0), (3, 50), (TOP, 0), (0, 101), (1, 101), (1, TOP), (2, 101), (TOP, TOP)):
            self.check(SMALL, ("leaf", so, misread), -22)
            self.check(FULL, ("leaf", so, misread), -22)
        for so, misread in ((0, 0), (1, 0), (1, 100), (0, 100)):
            self.check(FULL, ("leaf", so, misread), -28)

    def test_rows_that_are_too_short_or_too_long(self):
        free = FULL[:10]
        for name in ("all_of", "some"):
            self.check(free, (name,), -22)
            self.check(free, (name, 0, 1, 2, 3, 4), -22)
            self.check(free, (name, 0, 1, 2, 3, 4, 5), -22)
            self.check((), (name,), -22)

    def test_a_child_that_there_is_not(self):
        for name in ("all_of", "some"):
            for row in ((6,), (7,), (TOP,), (5, 6), (6, 5), (5, TOP), (TOP, TOP), (2, 4, 5, 6)):
                self.check(SMALL, (name, *row), -22)
            self.check((), (name, 0), -22)

    def test_a_child_that_is_named_twice(self):
        for name in ("all_of", "some"):
            for row in ((5, 5), (2, 5, 2), (5, 2, 4, 5), (4, 4, 4, 4), (2, 5, 5)):
                self.check(SMALL, (name, *row), -22)

    def test_a_child_that_is_another_ones_already(self):
        for name in ("all_of", "some"):
            for row in ((0,), (1,), (3,), (5, 0), (1, 5), (2, 1), (4, 3), (5, 2, 4, 3)):
                self.check(SMALL, (name, *row), -22)

    def test_bad_rows_among_twenty_nodes(self):
        for name in ("all_of", "some"):
            for row in ((), (0, 1, 2, 3, 4), (0, 1, 2, 3, 4, 5), (20,), (TOP,), (3, 3)):
                self.check(FULL, (name, *row), -22)
            for row in ((0,), (19, 0), (4, 5, 6, 7)):
                self.check(FULL, (name, *row), -28)
            self.check([*FULL[:19], ("some", 7)], (name, 7), -22)
            self.check([*FULL[:19], ("some", 7)], (name, 19), -28)

    def test_pop(self):
        self.check((), ("pop",), -6)
        self.check([("leaf", 1, 0), ("pop",)], ("pop",), -6)

    def test_no_such_node(self):
        for name in ("nodeis", "flip", "true", "held", "right"):
            for place in (6, 7, 19, 20, 21, TOP):
                self.check(SMALL, (name, place), -2)
            self.check((), (name, 0), -2)
            self.check(FULL, (name, 20), -2)
            self.check([*SMALL, ("pop",)], (name, 5), -2)

    def test_flip_of_no_leaf(self):
        self.check(SMALL, ("flip", 2), -33)
        self.check(SMALL, ("flip", 4), -33)

    def test_wrong(self):
        for place in (6, 20, TOP):
            for misread in (0, 100, 101, TOP):
                self.check(SMALL, ("wrong", place, misread), -2)
        self.check((), ("wrong", 0, 101), -2)
        for place in (0, 1, 2, 3, 4, 5):
            for misread in (101, 102, TOP):
                self.check(SMALL, ("wrong", place, misread), -22)
        for place in (2, 4):
            for misread in (0, 50, 100):
                self.check(SMALL, ("wrong", place, misread), -33)


if __name__ == "__main__":
    unittest.main()
