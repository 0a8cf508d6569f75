"""begin, what is answered before it, and what a second one does."""

import unittest

from tests.helper import CALLS, HUGE, ask, begin, future, last, questions

# The least and the greatest number that is let, in begin's order.
RANGES = ((1, 12), (1, 60), (1, 600), (0, 50), (0, 200), (1, 500), (1, 500))
MIDDLE = [3, 2, 200, 10, 50, 10, 180]

# Of each call but begin: numbers that are let, and numbers that are out of range.
OTHERS = (
    ("put", 0, 1, 0), ("put", 10, 0, 601),
    ("minutes", 1), ("minutes", 0),
    ("every", 1), ("every", 0),
    ("door", 0), ("door", 501),
    ("ahead", 1), ("ahead", 0),
    ("ends", 0), ("ends", HUGE),
    ("hardens", 0, 0), ("hardens", HUGE, HUGE),
    ("needs", 0, 0), ("needs", HUGE, HUGE),
    ("most", 1, 0), ("most", 0, HUGE),
    ("steady", 0, 0, 0), ("steady", HUGE, HUGE, HUGE),
    ("air", 0), ("air", HUGE),
    ("of", 0), ("of", 10),
    ("look", 0), ("look", HUGE),
    ("soft",), ("out",), ("chain",), ("mean",), ("sums",), ("state",),
)


def begin_with(which, number):
    """A begin of middling numbers but for one."""
    numbers = list(MIDDLE)
    numbers[which] = number
    return ("begin", *numbers)


class BeforeBegin(unittest.TestCase):
    def test_every_call_is_among_the_others(self):
        self.assertEqual({call[0] for call in OTHERS} | {"begin"}, set(CALLS))

    def test_all_others_answer_minus_11(self):
        for call in OTHERS:
            with self.subTest(call=call):
                self.assertEqual(ask(call), [[-11]])

    def test_minus_11_behind_a_refused_begin(self):
        for call in OTHERS:
            with self.subTest(call=call):
                self.assertEqual(ask(begin(places=0), call), [[-22], [-11]])

    def test_the_form_of_the_list_is_known_of_all_calls(self):
        self.assertEqual(ask(*OTHERS), [[-11]] * len(OTHERS))

    def test_a_begin_behind_those_that_were_refused(self):
        self.assertEqual(ask(*OTHERS, begin(slow=0), begin(), ("put", 0, 1, 0))[-3:], [[-22], [0], [0]])


class Ranges(unittest.TestCase):
    def test_least_and_greatest_are_let(self):
        for which, bounds in enumerate(RANGES):
            for number in bounds:
                with self.subTest(which=which, number=number):
                    self.assertEqual(ask(begin_with(which, number)), [[0]])

    def test_all_least_and_all_greatest(self):
        self.assertEqual(ask(("begin", *[least for least, most in RANGES])), [[0]])
        self.assertEqual(ask(("begin", *[most for least, most in RANGES])), [[0]])

    def test_one_less_and_one_more_are_refused(self):
        for which, (least, greatest) in enumerate(RANGES):
            for number in (least - 1, greatest + 1, HUGE):
                if number >= 0:
                    with self.subTest(which=which, number=number):
                        self.assertEqual(ask(begin_with(which, number)), [[-22]])

    def test_all_out_of_range(self):
        self.assertEqual(ask(("begin", *[HUGE] * 7)), [[-22]])


class OnOneThatHasBegun(unittest.TestCase):
    # Tray 0 is out soft at minute 6, tray 1 hard at 8; tray 2 is on the chain.
    BUSY = (
        begin(), ("put", 3, 4, 50), ("minutes", 3), ("put", 4, 5, 250), ("minutes", 5), ("put", 5, 6, 70),
        ("door", 9), ("every", 5), ("minutes", 1),
    )

    def test_it_is_busy(self):
        self.assertEqual(
            ask(*self.BUSY, ("sums",), ("state",), ("chain",))[-3:],
            [[0, 3, 1, 2, 1], [9, 5, 3, 8, 180], [1, 3, 0, 0]],
        )

    def test_a_refused_begin_changes_nothing(self):
        undisturbed = ask(*self.BUSY, *future(3))
        for which, (least, greatest) in enumerate(RANGES):
            refused = begin_with(which, greatest + 1)
            with self.subTest(which=which):
                disturbed = ask(*self.BUSY, refused, *future(3))
                self.assertEqual(disturbed[len(self.BUSY)], [-22])
                self.assertEqual(disturbed[len(self.BUSY) + 1:], undisturbed[len(self.BUSY):])

    def test_a_begin_that_answers_0_makes_all_new(self):
        again = begin(places=2, pace=3, base=90, warm=1, opened=7, slow=4, wanted=60)
        new = ask(again, *future(3))
        self.assertEqual(ask(*self.BUSY, again, *future(3))[len(self.BUSY):], new)

    def test_behind_a_new_begin_there_is_nothing(self):
        asked = (("ends", 0), ("ahead", 500), ("door", 1), ("every", 1), ("minutes", 1), ("put", 0, 1, 0))
        self.assertEqual(
            ask(*self.BUSY, begin(pace=7), *asked)[-6:],
            [[-2], [0, 0, 0], [0], [7], [1, 0], [0]],
        )

    def test_nothing_can_be_seen_of_what_was_before(self):
        given = ask(*self.BUSY, begin(pace=7), *questions(2))[len(self.BUSY) + 1:]
        told = dict(zip(questions(2), given))
        self.assertEqual(
            [told[asked,] for asked in ("soft", "out", "chain", "mean", "sums", "state")],
            [[0, 0], [0], [0, 0, 0, 0], [-6], [0, 0, 0, 0, 0], [0, 7, 3, 0, 180]],
        )
        self.assertEqual([told["of", flavour] for flavour in range(10)], [[0, 0]] * 10)
        self.assertEqual([told["look", number] for number in range(3)], [[-2]] * 3)
        self.assertEqual(told["air", 1], [190, 140, 200])

    def test_a_new_begin_lets_100_trays_again(self):
        once = [begin(places=1, pace=1)] + [("put", 0, 1, 0), ("minutes", 1)] * 100
        self.assertEqual(last(*once, ("put", 0, 1, 0)), [-28])
        self.assertEqual(last(*once, begin(), ("put", 0, 1, 0)), [0])


class WhatEachNumberIsFor(unittest.TestCase):
    def test_places(self):
        for places in (1, 2, 12):
            with self.subTest(places=places):
                self.assertEqual(last(begin(places=places, pace=5), ("put", 0, 1, 0), ("ends", 0))[0], 5 * places)

    def test_pace(self):
        for pace in (1, 2, 60):
            with self.subTest(pace=pace):
                self.assertEqual(last(begin(pace=pace), ("every", 1)), [pace])
                self.assertEqual(last(begin(places=2, pace=pace), ("put", 0, 1, 0), ("ends", 0))[0], 2 * pace)

    def test_wanted_is_neither_more_nor_less(self):
        self.assertEqual(last(begin(wanted=180), ("hardens", 0, 180)), [0])
        self.assertEqual(last(begin(wanted=181), ("hardens", 0, 180)), [1])


if __name__ == "__main__":
    unittest.main()
