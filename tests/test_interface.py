"""The list that is handed in and the list that is given back."""

import contextlib
import io
import sys
import unittest
from unittest import mock

from coldspiral.spiral import answers
from tests.helper import CALLS, HUGE, ask, begin, line, random_line, told_count


class Form(unittest.TestCase):
    def test_a_line_number_by_number(self):
        calls = [
            0, 2, 3, 200, 10, 50, 10, 50,
            1, 4, 20, 0,
            2, 2,
            3, 2,
            4, 1,
            5, 2,
            6, 0,
            7, 1, 0,
            8, 1, 0,
            9, 3, 0,
            1, 4, 20, 0,
            2, 4,
            1, 5, 30, 600,
            10, 1, 2, 0,
            11, 2,
            12,
            13,
            14, 4,
            15, 1,
            16,
            17,
            18,
            19,
        ]
        # Air 190 for two minutes: 20, 38; the door open for one, air 140: 49; then air 190: 64, 77, 89.
        # Steady with one: 20, 38, 54, 68. With two, air 180: 19, 36, 51.
        self.assertEqual(answers(calls), [
            1, 0,
            1, 0,
            2, 2, 0,
            1, 3,
            1, 0,
            3, 0, 0, 1,
            2, 4, 89,
            1, 3,
            1, 2,
            1, 2,
            1, -16,
            2, 6, 1,
            1, 1,
            1, 38,
            3, 180, 130, 190,
            2, 0, 0,
            4, 1, 0, 6, 89,
            2, 20, 0,
            5, 5, 30, 600, 6, 1,
            3, 1, 2, 0,
            3, 89, 89, 89,
            5, 0, 2, 1, 1, 0,
            5, 6, 2, 2, 0, 50,
        ])

    def test_soft_ones_number_by_number(self):
        calls = [0, 1, 1, 200, 10, 50, 10, 500] + [1, 2, 30, 0, 2, 1] * 3 + [12, 13]
        self.assertEqual(answers(calls)[-17:], [5, 3, 90, 0, 1, 2, 10, 3, 0, 1, 20, 1, 2, 20, 2, 3, 20])

    def test_how_many_numbers_each_call_answers(self):
        for seed in range(60):
            calls = random_line(seed, 80)
            for call, part in zip(calls, ask(*calls)):
                with self.subTest(seed=seed, call=call):
                    self.assertEqual(len(part), told_count(call[0], part[0], calls[0][1]))
                    self.assertTrue(all(number >= 0 for number in part[1:]))

    def test_no_other_refusals_than_told(self):
        may = {
            "begin": {-22}, "put": {-22, -16, -28}, "minutes": {-22}, "every": {-22}, "door": {-22}, "ahead": {-22},
            "ends": {-2, -17}, "hardens": {-22, -33}, "needs": {-22, -33}, "most": {-22, -33}, "steady": {-22},
            "air": {-22}, "soft": set(), "out": set(), "of": {-22}, "look": {-2}, "chain": set(), "mean": {-6},
            "sums": set(), "state": set(),
        }
        self.assertEqual(set(may), set(CALLS))
        for seed in range(60):
            calls = random_line(seed, 80)
            for call, part in zip(calls, ask(*calls)):
                with self.subTest(seed=seed, call=call):
                    self.assertIn(part[0], may[call[0]] | {max(0, part[0])})

    def test_all_are_whole_numbers(self):
        for seed in range(30):
            given = answers(line(random_line(seed, 80)))
            self.assertIs(type(given), list)
            self.assertEqual({type(number) for number in given}, {int})

    def test_one_call_alone(self):
        self.assertEqual(answers([0, 3, 2, 200, 10, 50, 10, 180]), [1, 0])
        self.assertEqual(answers([0] + [HUGE] * 7), [1, -22])
        self.assertEqual(answers([19]), [1, -11])

    def test_call_numbers_among_the_arguments_are_arguments(self):
        self.assertEqual(answers([0, 1, 2, 3, 4, 5, 6, 7, 1, 1, 1, 1, 5, 5]), [1, 0, 1, 0, 3, 1, 1, 0])


class HandedIn(unittest.TestCase):
    def test_the_list_is_the_same_behind_the_call(self):
        for seed in range(30):
            calls = line(random_line(seed, 80))
            before = list(calls)
            answers(calls)
            self.assertEqual(calls, before)

    def test_the_list_is_not_changed_for_a_while_either(self):
        class Watched(list):
            def refuse(self, *given, **named):
                raise AssertionError("the list that was handed in is changed")

            __setitem__ = __delitem__ = __iadd__ = __imul__ = refuse
            append = extend = insert = pop = remove = clear = sort = reverse = refuse

        calls = line(random_line(1, 80))
        self.assertEqual(answers(Watched(calls)), answers(calls))

    def test_a_second_time_gives_the_same(self):
        for seed in range(30):
            calls = line(random_line(seed, 80))
            first = answers(calls)
            kept = list(first)
            answers(line(random_line(seed + 1, 80)))
            self.assertEqual(answers(calls), kept)
            first.append(7)
            self.assertEqual(answers(calls), kept)

    def test_nothing_is_kept_from_one_time_to_the_next(self):
        answers(line([begin(), ("put", 0, 1, 0)]))
        self.assertEqual(answers(line([("ends", 0)])), [1, -11])

    def test_nothing_is_printed_read_or_imported(self):
        calls = line(random_line(3, 80))
        printed = io.StringIO()
        loaded = set(sys.modules)
        refused = AssertionError("nothing is to be read")
        with contextlib.redirect_stdout(printed), contextlib.redirect_stderr(printed):
            with mock.patch("builtins.open", side_effect=refused), mock.patch("builtins.input", side_effect=refused):
                answers(calls)
        self.assertEqual(printed.getvalue(), "")
        self.assertEqual(set(sys.modules), loaded)


class EveryCallEnds(unittest.TestCase):
    # The most minutes, with the air so cold and slow that frost is a long time on its way.
    LONG = begin(places=12, pace=60, base=600, warm=0, opened=200, slow=500, wanted=500)

    def full_chain(self):
        calls = [self.LONG, ("every", 1)]
        for number in range(12):
            calls += [("put", 0, 1, 0), ("minutes", 1)]
        return calls[:-1] + [("every", 60)]

    def test_four_hundred_of_each_kind(self):
        start = self.full_chain()
        for call in (
            begin(), ("put", 0, 1, 0), ("minutes", 500), ("every", 60), ("door", 500), ("ahead", 500), ("ends", 11),
            ("hardens", 12, 0), ("needs", 12, 0), ("most", 60, 0), ("steady", 12, 2000, 0), ("air", 12), ("soft",),
            ("out",), ("of", 0), ("look", 11), ("chain",), ("mean",), ("sums",), ("state",),
        ):
            with self.subTest(call=call):
                calls = start + [call] * (400 - len(start))
                self.assertEqual(len(ask(*calls)), 400)

    def test_all_kinds_with_a_hundred_trays(self):
        # Behind 88 that are out there are 12 on the chain, and all kinds of calls up to the four hundredth.
        start = [self.LONG, ("every", 1)] + [("put", 0, 1, 0), ("minutes", 1)] * 99 + [("put", 0, 1, 0), ("every", 60)]
        kinds = [
            ("put", 0, 1, 0), ("ahead", 500), ("ends", 99), ("hardens", 12, 0), ("needs", 12, 0), ("most", 60, 0),
            ("steady", 12, 2000, 0), ("air", 12), ("soft",), ("out",), ("of", 0), ("look", 99), ("chain",), ("mean",),
            ("sums",), ("state",), ("door", 500), ("every", 60), ("minutes", 1),
        ]
        calls = (start + kinds * 20)[:400]
        given = ask(*calls)
        told = dict(zip(kinds, given[len(start):]))
        self.assertEqual(told[kinds[0]], [-16])
        self.assertEqual(told["sums",], [0, 100, 12, 88, 88])
        self.assertEqual(told["chain",], [12, *range(100, 88, -1)])
        self.assertEqual(told["soft",], [88, 88, *range(88)])
        self.assertEqual(len(told["out",]), 1 + 3 * 88)
        self.assertEqual(len(given), 400)

    def test_a_hundred_trays_out_asked_as_often_as_can_be(self):
        start = [begin(places=1, pace=1)] + [("put", 0, 1, 0), ("minutes", 1)] * 100
        for call, count in ((("soft",), 102), (("out",), 301)):
            with self.subTest(call=call):
                given = ask(*start, *[call] * (400 - len(start)))[len(start):]
                self.assertEqual([len(part) for part in given], [count] * (400 - len(start)))

    def test_four_hundred_that_are_not_so(self):
        setup = begin(places=12, base=400, warm=50, slow=500, wanted=500)
        for call in (("hardens", 12, 0), ("needs", 12, 0), ("most", 60, 0)):
            with self.subTest(call=call):
                self.assertEqual(ask(setup, *[call] * 399)[1:], [[-33]] * 399)

    def test_four_hundred_begins(self):
        calls = line([self.LONG] * 400)
        self.assertEqual(len(calls), 3200)
        self.assertEqual(answers(calls), [1, 0] * 400)

    def test_minutes_go_far(self):
        self.assertEqual(ask(begin(), *[("minutes", 500)] * 399)[-1], [199500, 0])


if __name__ == "__main__":
    unittest.main()
