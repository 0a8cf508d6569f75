"""put, minutes, every and door."""

import unittest

from tests.helper import HUGE, ask, begin, future, last

HUNDRED = [begin(places=1, pace=1)] + [("put", 0, 1, 0), ("minutes", 1)] * 100


def frost_after(start, minutes, setup, door=0):
    """A lone tray's frost when it comes out of one place behind so many minutes."""
    told = last(setup, ("put", 0, 1, start), ("door", door), ("every", minutes), ("ends", 0))
    return told[1]


class Put(unittest.TestCase):
    def test_numbers_from_0_on(self):
        self.assertEqual(
            ask(begin(pace=1), ("put", 1, 5, 0), ("minutes", 1), ("put", 1, 5, 0), ("minutes", 1), ("put", 2, 6, 9))[1::2],
            [[0], [1], [2]],
        )

    def test_the_edges_that_are_let(self):
        for call in (("put", 0, 1, 0), ("put", 9, 1, 0), ("put", 0, 1000, 0), ("put", 0, 1, 600), ("put", 9, 1000, 600)):
            with self.subTest(call=call):
                self.assertEqual(ask(begin(), call), [[0], [0]])

    def test_out_of_range(self):
        for call in (
            ("put", 10, 1, 0), ("put", HUGE, 1, 0), ("put", 0, 0, 0), ("put", 0, 1001, 0),
            ("put", 0, HUGE, 0), ("put", 0, 1, 601), ("put", 0, 1, HUGE), ("put", HUGE, HUGE, HUGE),
        ):
            with self.subTest(call=call):
                self.assertEqual(ask(begin(), call, ("ends", 0), ("put", 0, 1, 0)), [[0], [-22], [-2], [0]])

    def test_there_is_one_at_the_first_place(self):
        self.assertEqual(
            ask(begin(pace=3), ("put", 0, 1, 0), ("put", 0, 1, 0), ("minutes", 2), ("put", 0, 1, 0),
                ("minutes", 1), ("put", 0, 1, 0)),
            [[0], [0], [-16], [2, 0], [-16], [3, 0], [1]],
        )

    def test_there_is_one_at_the_only_place(self):
        self.assertEqual(
            ask(begin(places=1, pace=2), ("put", 0, 1, 0), ("minutes", 1), ("put", 0, 1, 0), ("minutes", 1), ("put", 0, 1, 0)),
            [[0], [0], [1, 0], [-16], [2, 1], [1]],
        )

    def test_a_hundred_and_no_more(self):
        given = ask(*HUNDRED, ("put", 9, 1000, 600))
        self.assertEqual(given[1:-1:2], [[number] for number in range(100)])
        self.assertEqual(given[-1], [-28])

    def test_out_of_range_comes_ahead_of_one_there(self):
        self.assertEqual(last(begin(), ("put", 0, 1, 0), ("put", 10, 1, 0)), [-22])
        self.assertEqual(last(begin(), ("put", 0, 1, 0), ("put", 0, 0, 0)), [-22])
        self.assertEqual(last(begin(), ("put", 0, 1, 0), ("put", 0, 1, 601)), [-22])

    def test_one_there_comes_ahead_of_too_many(self):
        self.assertEqual(last(*HUNDRED[:-1], ("put", 0, 1, 0)), [-16])

    def test_out_of_range_comes_ahead_of_too_many(self):
        self.assertEqual(last(*HUNDRED, ("put", 0, 1001, 0)), [-22])
        self.assertEqual(last(*HUNDRED[:-1], ("put", 0, 1001, 0)), [-22])


class Minutes(unittest.TestCase):
    def test_ranges(self):
        for n in (0, 501, HUGE):
            with self.subTest(n=n):
                self.assertEqual(ask(begin(), ("minutes", n), ("minutes", 1)), [[0], [-22], [1, 0]])
        for n in (1, 2, 499, 500):
            with self.subTest(n=n):
                self.assertEqual(ask(begin(), ("minutes", n)), [[0], [n, 0]])

    def test_the_minute_goes_on(self):
        self.assertEqual(ask(begin(), *[("minutes", 500)] * 3)[1:], [[500, 0], [1000, 0], [1500, 0]])

    def test_how_many_came_out_in_these(self):
        calls = [begin(places=2, pace=3)]
        for number in range(4):
            calls += [("put", 0, 1, 0), ("minutes", 3)]
        # Tray k is put at minute 3k and comes out at 3k + 6.
        self.assertEqual(ask(*calls)[2::2], [[3, 0], [6, 1], [9, 1], [12, 1]])
        self.assertEqual(last(*calls, ("minutes", 500)), [512, 1])

    def test_several_come_out_in_one_call(self):
        calls = [begin(places=4, pace=1)] + [("put", 0, 1, 0), ("minutes", 1)] * 3
        self.assertEqual(ask(*calls, ("minutes", 3), ("minutes", 1))[-2:], [[6, 3], [7, 0]])

    def test_the_minute_in_which_it_moves(self):
        # Put one minute ahead of a move, a tray is at the first place for that minute alone.
        self.assertEqual(
            ask(begin(places=2, pace=5), ("minutes", 4), ("put", 0, 1, 0), ("minutes", 1), ("put", 0, 1, 0),
                ("minutes", 4), ("minutes", 1), ("minutes", 5))[1:],
            [[4, 0], [0], [5, 0], [1], [9, 0], [10, 1], [15, 1]],
        )

    def test_put_in_the_minute_in_which_it_moved(self):
        self.assertEqual(
            ask(begin(places=1, pace=4), ("minutes", 4), ("put", 0, 1, 0), ("minutes", 3), ("minutes", 1))[1:],
            [[4, 0], [0], [7, 0], [8, 1]],
        )

    def test_a_chain_of_one_place(self):
        self.assertEqual(
            ask(begin(places=1, pace=1), ("put", 0, 1, 0), ("minutes", 1), ("ends", 0), ("put", 0, 1, 0), ("minutes", 2)),
            [[0], [0], [1, 1], [-17], [1], [3, 1]],
        )

    def test_an_empty_chain(self):
        self.assertEqual(
            ask(begin(), ("minutes", 500), ("ahead", 500), ("put", 0, 1, 0)),
            [[0], [500, 0], [0, 0, 0], [0]],
        )


class AMinutesChange(unittest.TestCase):
    def test_one_more_and_the_difference_divided_by_slow(self):
        # Air 200: 0 -> 0 + 1 + 200 // 10 = 21 -> 21 + 1 + 179 // 10 = 39 -> 39 + 1 + 161 // 10 = 56.
        setup = begin(places=1, base=200, warm=0, slow=10)
        self.assertEqual([frost_after(0, n, setup) for n in (1, 2, 3)], [21, 39, 56])

    def test_rounded_down(self):
        setup = begin(places=1, base=200, warm=0, slow=10)
        self.assertEqual(frost_after(181, 1, setup), 183)
        self.assertEqual(frost_after(190, 1, setup), 192)
        self.assertEqual(frost_after(191, 1, setup), 192)

    def test_slow_of_more_than_the_difference_leaves_one(self):
        setup = begin(places=1, base=200, warm=0, slow=500)
        self.assertEqual([frost_after(0, n, setup) for n in (1, 2, 60)], [1, 2, 60])

    def test_no_more_than_the_airs(self):
        setup = begin(places=1, base=200, warm=0, slow=1)
        self.assertEqual([frost_after(start, 1, setup) for start in (0, 100, 198, 199)], [200] * 4)
        self.assertEqual(frost_after(198, 1, begin(places=1, base=200, warm=0, slow=2)), 200)

    def test_air_as_cold_as_the_tray(self):
        for slow in (1, 10, 500):
            setup = begin(places=1, base=200, warm=0, slow=slow)
            self.assertEqual([frost_after(200, n, setup) for n in (1, 2, 60)], [200] * 3)

    def test_a_tray_colder_than_the_air_loses_one(self):
        for slow in (1, 10, 500):
            setup = begin(places=1, base=200, warm=0, slow=slow)
            self.assertEqual(frost_after(600, 1, setup), 599)
            self.assertEqual(frost_after(600, 60, setup), 540)
            self.assertEqual([frost_after(203, n, setup) for n in (2, 3, 4)], [201, 200, 200])

    def test_warm_counts_each_tray(self):
        # One tray: air 190, 0 -> 20. Then two: air 180, 20 -> 37 and 0 -> 19.
        calls = (begin(places=2, pace=1), ("put", 0, 1, 0), ("minutes", 1), ("put", 0, 1, 0), ("ends", 0), ("ends", 1))
        self.assertEqual(ask(*calls)[-2:], [[1, 37], [2, 37]])

    def test_a_tray_that_comes_out_warms_its_last_minute_only(self):
        # Minute 1 has air 180 for both, 0 -> 19; the first is out, then air 190: 19 -> 37.
        calls = (begin(places=2, pace=1), ("put", 0, 1, 190), ("minutes", 1), ("put", 0, 1, 0), ("minutes", 1), ("ends", 1))
        self.assertEqual(last(*calls), [1, 37])

    def test_air_with_no_frost_left(self):
        # Base less warm would be below 0: the air has 0, and a tray goes no lower.
        setup = begin(places=1, base=10, warm=50, slow=1)
        self.assertEqual([frost_after(start, 1, setup) for start in (0, 1, 2, 30)], [0, 0, 1, 29])
        self.assertEqual(frost_after(30, 60, setup), 0)

    def test_air_with_no_frost_left_by_the_door(self):
        setup = begin(places=1, base=100, warm=40, opened=60, slow=1)
        self.assertEqual([frost_after(start, 1, setup, 1) for start in (0, 1, 9)], [0, 0, 8])
        self.assertEqual(frost_after(9, 2, setup, 1), 60)
        self.assertEqual(frost_after(0, 1, begin(places=1, base=100, warm=40, opened=59, slow=1), 1), 1)


class Every(unittest.TestCase):
    def test_ranges(self):
        for pace in (0, 61, HUGE):
            with self.subTest(pace=pace):
                self.assertEqual(ask(begin(pace=7), ("every", pace), ("every", 1)), [[0], [-22], [7]])
        for pace in (1, 2, 59, 60):
            with self.subTest(pace=pace):
                self.assertEqual(ask(begin(pace=7), ("every", pace), ("every", 5)), [[0], [7], [pace]])

    def test_changed_in_the_midst(self):
        # At minute 4, every 3 moves at 6 and 9, not three minutes from now on. Nine minutes in air 190:
        # 0, 20, 38, 54, 68, 81, 92, 102, 111, 119.
        self.assertEqual(
            ask(begin(places=2, pace=10), ("put", 0, 1, 0), ("minutes", 4), ("every", 3), ("ends", 0),
                ("minutes", 2), ("put", 0, 1, 0), ("minutes", 2), ("minutes", 1))[3:],
            [[10], [5, 119], [6, 0], [1], [8, 0], [9, 1]],
        )

    def test_changed_to_a_divisor_of_the_minute_moves_nothing_at_once(self):
        self.assertEqual(
            ask(begin(places=1, pace=10), ("put", 0, 1, 0), ("minutes", 4), ("every", 2), ("put", 0, 1, 0),
                ("minutes", 1), ("minutes", 1))[3:],
            [[10], [-16], [5, 0], [6, 1]],
        )

    def test_changed_back_and_forth(self):
        self.assertEqual(
            ask(begin(places=1, pace=2), ("put", 0, 1, 0), ("minutes", 1), ("every", 60), ("minutes", 58), ("every", 59),
                ("ends", 0), ("every", 60), ("ends", 0), ("minutes", 1))[3:],
            [[2], [59, 0], [60], [59, 190], [59], [1, 190], [60, 1]],
        )


class Door(unittest.TestCase):
    def test_ranges(self):
        for n in (501, 502, HUGE):
            with self.subTest(n=n):
                self.assertEqual(ask(begin(), ("door", 8), ("door", n), ("door", 0)), [[0], [0], [-22], [8]])
        for n in (0, 1, 499, 500):
            with self.subTest(n=n):
                self.assertEqual(ask(begin(), ("door", n), ("door", 0), ("door", 3)), [[0], [0], [n], [0]])

    def test_its_time_goes_by(self):
        self.assertEqual(
            ask(begin(), ("door", 5), ("minutes", 2), ("door", 3), ("minutes", 2), ("door", 1), ("minutes", 1), ("door", 0)),
            [[0], [0], [2, 0], [3], [4, 0], [1], [5, 0], [0]],
        )

    def test_its_time_is_never_below_0(self):
        self.assertEqual(ask(begin(), ("door", 2), ("minutes", 500), ("door", 0))[-1], [0])

    def test_it_is_no_longer_open_than_told(self):
        # Shut: air 190. Open: air 140.
        setup = begin(places=1, slow=1)
        self.assertEqual([frost_after(0, 3, setup, door) for door in (0, 1, 2, 3, 4, 500)], [190, 190, 190, 140, 140, 140])

    def test_open_for_the_last_minute(self):
        calls = (begin(places=1, pace=3, slow=1), ("put", 0, 1, 0), ("minutes", 2))
        self.assertEqual(last(*calls, ("ends", 0)), [1, 190])
        self.assertEqual(last(*calls, ("door", 1), ("ends", 0)), [1, 189])
        self.assertEqual(last(*calls, ("door", 1), ("door", 0), ("ends", 0)), [1, 190])

    def test_open_for_the_last_minute_makes_it_soft(self):
        calls = (begin(places=1, pace=3, slow=1, wanted=190), ("put", 0, 1, 0), ("minutes", 2))
        self.assertEqual(last(*calls, ("ahead", 1)), [1, 0, 0])
        self.assertEqual(last(*calls, ("door", 1), ("ahead", 1)), [1, 1, 0])

    def test_open_in_the_first_minute_alone(self):
        calls = (begin(places=1, pace=2, slow=10), ("put", 0, 1, 0), ("door", 1), ("ends", 0))
        # Open: 0 + 1 + 140 // 10 = 15. Shut: 15 + 1 + 175 // 10 = 33.
        self.assertEqual(last(*calls), [2, 33])


class RefusedChangesNothing(unittest.TestCase):
    def test_refusals_of_all_four(self):
        busy = (begin(), ("put", 3, 4, 50), ("minutes", 3), ("put", 4, 5, 250), ("door", 9), ("every", 5), ("minutes", 1))
        undisturbed = ask(*busy, *future(2))[len(busy):]
        for refused in (
            ("put", 10, 1, 0), ("put", 0, 1, 0), ("minutes", 0), ("minutes", 501), ("minutes", HUGE),
            ("every", 0), ("every", 61), ("every", HUGE), ("door", 501), ("door", HUGE),
        ):
            with self.subTest(refused=refused):
                given = ask(*busy, refused, *future(2))[len(busy):]
                self.assertEqual(len(given[0]), 1)
                self.assertLess(given[0][0], 0)
                self.assertEqual(given[1:], undisturbed)


if __name__ == "__main__":
    unittest.main()
