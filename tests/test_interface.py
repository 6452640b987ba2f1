import unittest

from disputed.judge import answers
from tests.lines import BEGIN, CALLS, TOP, Unchanging, ask, ask_last, written


class TheLists(unittest.TestCase):
    def test_each_call_as_it_is_written(self):
        handed = [
            0, 0, 0,
            1, 2, 1, 10, 0,
            1, 2, 0, 25, 0,
            2, 2, 0, 1, 0,
            3, 1, 2, 0,
            5, 1, 0, 0,
            5, 1, 2, 0,
            5, 1, 3, 0,
            8, 1, 3, 0,
            9, 1, 3, 0,
            10, 1, 3, 0,
            6, 1, 1, 0,
            7, 2, 1, 5, 0,
            8, 1, 3, 0,
            9, 1, 3, 0,
            10, 1, 3, 0,
            4, 0, 0,
        ]
        self.assertEqual(answers(handed), [
            1, 0,
            1, 0,
            1, 1,
            1, 2,
            1, 3,
            3, 0, 1, 10,
            3, 1, 0, 1,
            2, 2, 2,
            1, 0,
            3, 0, 1, 4,
            3, 0, 3, 4,
            1, 1,
            1, 25,
            1, 1,
            3, 0, 9, 10,
            3, 0, 9, 10,
            1, 3,
        ])

    def test_each_further_call_as_it_is_written(self):
        handed = [
            0, 0, 0,
            1, 2, 1, 10, 0,
            1, 2, 0, 25, 0,
            3, 2, 1, 0, 0,
            1, 2, 1, 40, 0,
            2, 2, 2, 3, 0,
            11, 1, 4, 0,
            12, 1, 4, 0,
            13, 6, 4, 0, 0, 0, 0, 0, 0,
            13, 6, 4, 0, 0, 1, 0, 0, 0,
            14, 6, 4, 0, 0, 0, 0, 0, 0,
            14, 6, 4, 0, 0, 0, 0, 1, 0,
            15, 1, 4, 0,
            16, 1, 4, 0,
            17, 1, 2, 0,
            18, 3, 4, 3, 20, 0,
            19, 2, 4, 0, 0,
            19, 2, 4, 1, 0,
            20, 1, 4, 0,
            21, 1, 4, 0,
            13, 1, 4, 0,
            14, 1, 5, 0,
        ]
        self.assertEqual(answers(handed), [
            1, 0,
            1, 0,
            1, 1,
            1, 2,
            1, 3,
            1, 4,
            1, 3,
            3, 2, 4, 3,
            3, 0, 1, 4,
            3, 0, 3, 5,
            3, 0, 9, 10,
            3, 0, 3, 5,
            3, 2, 0, 3,
            4, 3, 1, 0, 3,
            2, 1, 0,
            3, 0, 4, 5,
            1, 0,
            1, 1,
            3, 3, 9, 10,
            1, 2,
            1, -22,
            1, -2,
        ])

    def test_a_single_call(self):
        self.assertEqual(answers([0, 0, 0]), [1, 0])
        self.assertEqual(answers([4, 0, 0]), [1, -11])

    def test_a_refusal_stands_alone(self):
        self.assertEqual(answers([0, 0, 0, 9, 1, 0, 0, 2, 0, 0, 4, 0, 0]), [1, 0, 1, -2, 1, -22, 1, -6])

    def test_sixty_calls(self):
        calls = [BEGIN] + [("leaf", 1, place) for place in range(20)] + [("held", place) for place in range(20)]
        calls += [("wrong", place, 100) for place in range(19)]
        self.assertEqual(len(calls), 60)
        found = ask(*calls)
        self.assertEqual(found[1:21], [[place] for place in range(20)])
        self.assertEqual(found[21:24], [[0, 1, 1], [0, 99, 100], [0, 49, 50]])
        self.assertEqual(found[41:], [[place] for place in range(19)])

    def test_sixty_calls_with_the_longest_rows(self):
        self.assertEqual(ask(BEGIN, *[("some", 0, 1, 2, 3, 4, 5)] * 59), [[0]] + [[-22]] * 59)

    def test_sixty_calls_with_the_longest_rows_of_picks(self):
        for name in ("bysay", "bydoubt"):
            self.assertEqual(ask(BEGIN, ("leaf", 1, 0), *[(name, 0, *[TOP] * 22)] * 58), [[0], [0]] + [[-22]] * 58)

    def test_what_is_handed_in_is_not_changed(self):
        calls = [BEGIN, ("leaf", 1, 7), ("leaf", 0, 8), ("all_of", 1, 0), ("nodeis", 2), ("flip", 0),
                 ("wrong", 1, 9), ("held", 2), ("right", 2), ("true", 2), ("pick", 2), ("way", 2),
                 ("bysay", 2, 0, 0, 0), ("bydoubt", 2, 0, 0, 1), ("proof", 2), ("leaves", 2), ("matter", 2),
                 ("ifwrong", 2, 0, 50), ("ifflip", 2, 1), ("best", 2), ("depth", 2), ("pop",), ("leaf", 2, 7), BEGIN]
        handed = written(calls)
        kept = list(handed)
        answers(handed)
        self.assertEqual(handed, kept)
        answers(Unchanging(handed))

    def test_what_is_given_back_is_the_callers(self):
        handed = written([BEGIN, ("leaf", 1, 7), ("some", 0), ("nodeis", 1)])
        first = answers(handed)
        kept = list(first)
        first.clear()
        self.assertEqual(answers(handed), kept)

    def test_nothing_is_kept_from_one_time_to_the_next(self):
        handed = written([BEGIN, ("leaf", 1, 7), ("flip", 0), ("wrong", 0, 30), ("some", 0)])
        first = answers(handed)
        self.assertEqual(answers(handed), first)
        self.assertEqual(ask(("leaf", 1, 7), ("nodeis", 0)), [[-11], [-11]])
        self.assertEqual(ask(BEGIN, ("nodeis", 0), ("pop",)), [[0], [-2], [-6]])
        self.assertEqual(answers(handed), first)


class BeforeBegin(unittest.TestCase):
    EACH = (("leaf", 1, 0), ("all_of", 0), ("some", 0), ("pop",), ("nodeis", 0), ("flip", 0), ("wrong", 0, 0),
            ("true", 0), ("held", 0), ("right", 0), ("pick", 0), ("way", 0), ("bysay", 0), ("bysay", 0, 0),
            ("bydoubt", 0), ("bydoubt", 0, 0), ("proof", 0), ("leaves", 0), ("matter", 0), ("ifwrong", 0, 0, 0),
            ("ifflip", 0, 0), ("best", 0), ("depth", 0))

    def test_each_call_is_refused(self):
        for call in self.EACH:
            with self.subTest(call=call):
                self.assertEqual(ask(call), [[-11]])
        self.assertEqual(ask(*self.EACH), [[-11]] * len(self.EACH))
        self.assertEqual({call[0] for call in self.EACH}, set(CALLS) - {"begin"})

    def test_this_refusal_is_ahead_of_all_others(self):
        for call in (("leaf", 2, 0), ("leaf", TOP, TOP), ("all_of",), ("some", 0, 0), ("some", 1, 2, 3, 4, 5, 6),
                     ("nodeis", TOP), ("flip", TOP), ("wrong", TOP, TOP), ("true", TOP), ("held", TOP),
                     ("right", TOP), ("pick", TOP), ("way", TOP), ("bysay", TOP, *[TOP] * 22),
                     ("bydoubt", TOP, *[TOP] * 22), ("proof", TOP), ("leaves", TOP), ("matter", TOP),
                     ("ifwrong", TOP, TOP, TOP), ("ifflip", TOP, TOP), ("best", TOP), ("depth", TOP)):
            with self.subTest(call=call):
                self.assertEqual(ask(call), [[-11]])

    def test_nothing_is_put_by_what_is_refused(self):
        self.assertEqual(ask(("leaf", 1, 0), BEGIN, ("pop",), ("nodeis", 0)), [[-11], [0], [-6], [-2]])


class BeginAgain(unittest.TestCase):
    def test_there_are_no_nodes(self):
        self.assertEqual(
            ask(BEGIN, ("leaf", 1, 3), ("some", 0), BEGIN, ("nodeis", 0), ("held", 1), ("pop",)),
            [[0], [0], [1], [0], [-2], [-2], [-6]])

    def test_numbers_start_from_0_and_no_child_is_taken(self):
        self.assertEqual(
            ask(BEGIN, ("leaf", 1, 3), ("some", 0), BEGIN, ("leaf", 0, 4), ("all_of", 0), ("nodeis", 0), ("nodeis", 1)),
            [[0], [0], [1], [0], [0], [1], [0, 0, 4], [1, 0]])

    def test_after_twenty_nodes(self):
        self.assertEqual(ask_last(*[("leaf", 1, 0)] * 20, BEGIN, ("leaf", 1, 0)), [0])

    def test_begin_twice_at_once(self):
        self.assertEqual(ask(BEGIN, BEGIN, ("leaf", 1, 0)), [[0], [0], [0]])


if __name__ == "__main__":
    unittest.main()
