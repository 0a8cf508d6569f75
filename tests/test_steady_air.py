"""hardens, steady, needs and most."""

import unittest

from tests.helper import HUGE, ask, begin, future, last

# Air 200 less 10 for each tray.
STEADY = begin(places=4, base=200, warm=10, slow=10, wanted=150)


class Hardens(unittest.TestCase):
    def test_in_just_so_many_minutes(self):
        # Air 190: 0, 20, 38, 54, 68, 81, 92, 102, 111, 119.
        for wanted, minutes in ((1, 1), (20, 1), (21, 2), (38, 2), (39, 3), (54, 3), (119, 9), (120, 10)):
            with self.subTest(wanted=wanted):
                self.assertEqual(last(begin(wanted=wanted), ("hardens", 1, 0)), [minutes])

    def test_it_is_hard_already(self):
        self.assertEqual(last(STEADY, ("hardens", 1, 150)), [0])
        self.assertEqual(last(STEADY, ("hardens", 1, 600)), [0])
        self.assertEqual(last(STEADY, ("hardens", 1, 149)), [1])

    def test_hard_already_in_air_that_is_too_warm(self):
        setup = begin(base=1, warm=50, wanted=150)
        self.assertEqual(ask(setup, ("hardens", 3, 150), ("hardens", 3, 149))[1:], [[0], [-33]])

    def test_so_many_trays_make_the_air_so_warm(self):
        # With slow 1 the air's frost is there in a minute.
        setup = begin(places=4, base=200, warm=10, slow=1, wanted=180)
        given = ask(setup, *[("hardens", trays, 0) for trays in (0, 1, 2, 3, 4)])
        self.assertEqual(given[1:], [[1], [1], [1], [-33], [-33]])

    def test_just_the_airs_frost_is_wanted(self):
        # The last tenths come one a minute, and the air's frost itself is reached.
        self.assertEqual(last(begin(base=100, warm=0, slow=500, wanted=100), ("hardens", 0, 0)), [100])
        self.assertEqual(last(begin(base=100, warm=0, slow=500, wanted=101), ("hardens", 0, 0)), [-33])

    def test_the_longest_that_can_be(self):
        self.assertEqual(last(begin(base=600, warm=0, slow=500, wanted=500), ("hardens", 0, 0))[0] > 400, True)
        self.assertEqual(last(begin(base=500, warm=0, slow=500, wanted=500), ("hardens", 0, 0)), [499])

    def test_not_so(self):
        self.assertEqual(last(begin(base=149, warm=0, wanted=150), ("hardens", 0, 0)), [-33])
        self.assertEqual(last(begin(base=149, warm=0, wanted=150), ("hardens", 0, 149)), [-33])

    def test_the_door_does_not_count(self):
        self.assertEqual(
            last(STEADY, ("door", 500), ("hardens", 1, 0)), last(STEADY, ("hardens", 1, 0)))

    def test_what_is_on_the_chain_does_not_count(self):
        calls = (STEADY, ("put", 0, 1, 0), ("minutes", 3), ("put", 0, 1, 0))
        for asked in (("hardens", 1, 0), ("needs", 1, 0), ("most", 9, 0)):
            self.assertEqual(last(*calls, asked), last(STEADY, asked))

    def test_ranges(self):
        for trays, frost in ((5, 0), (HUGE, 0), (0, 601), (0, HUGE), (5, 601), (HUGE, HUGE), (5, 600), (4, 601)):
            with self.subTest(trays=trays, frost=frost):
                self.assertEqual(last(STEADY, ("hardens", trays, frost)), [-22])
        for trays, frost in ((0, 600), (4, 600)):
            with self.subTest(trays=trays, frost=frost):
                self.assertEqual(last(STEADY, ("hardens", trays, frost)), [0])

    def test_places_bound_the_trays(self):
        for places in (1, 2, 11, 12):
            setup = begin(places=places, warm=0)
            self.assertEqual(ask(setup, ("hardens", places, 600), ("hardens", places + 1, 600))[1:], [[0], [-22]])

    def test_out_of_range_comes_ahead_of_not_so(self):
        self.assertEqual(last(begin(places=2, base=1), ("hardens", 3, 0)), [-22])


class Steady(unittest.TestCase):
    def test_the_frost_minute_by_minute(self):
        # Air 190.
        given = ask(begin(), *[("steady", 1, minutes, 0) for minutes in range(10)])[1:]
        self.assertEqual(given, [[frost] for frost in (0, 20, 38, 54, 68, 81, 92, 102, 111, 119)])

    def test_no_minute_leaves_it(self):
        for frost in (0, 1, 200, 600):
            with self.subTest(frost=frost):
                self.assertEqual(last(STEADY, ("steady", 2, 0, frost)), [frost])

    def test_so_many_trays_make_the_air_so_warm(self):
        # With slow 1 the air's frost is there in a minute.
        setup = begin(places=4, base=200, warm=10, slow=1)
        given = ask(setup, *[("steady", trays, 1, 0) for trays in range(5)])[1:]
        self.assertEqual(given, [[200], [190], [180], [170], [160]])

    def test_air_as_cold_as_the_tray(self):
        for minutes in (1, 2, 2000):
            with self.subTest(minutes=minutes):
                self.assertEqual(last(STEADY, ("steady", 1, minutes, 190)), [190])

    def test_a_tray_colder_than_the_air(self):
        given = ask(STEADY, *[("steady", 1, minutes, 193) for minutes in (1, 2, 3, 4, 2000)])[1:]
        self.assertEqual(given, [[192], [191], [190], [190], [190]])
        self.assertEqual(last(STEADY, ("steady", 0, 399, 600)), [201])

    def test_air_with_no_frost_left(self):
        setup = begin(places=4, base=10, warm=5)
        given = ask(setup, ("steady", 4, 2000, 0), ("steady", 2, 3, 3), ("steady", 2, 2, 3), ("steady", 4, 599, 600))
        self.assertEqual(given[1:], [[0], [0], [1], [1]])

    def test_it_never_goes_beyond_the_airs(self):
        for slow in (1, 2, 500):
            self.assertEqual(last(begin(base=600, warm=0, slow=slow), ("steady", 0, 2000, 0)), [600])
            self.assertEqual(last(begin(base=1, warm=0, slow=slow), ("steady", 0, 2000, 600)), [1])

    def test_the_door_and_the_chain_do_not_count(self):
        calls = (STEADY, ("put", 0, 1, 0), ("minutes", 3), ("put", 0, 1, 0), ("door", 500), ("every", 60))
        self.assertEqual(last(*calls, ("steady", 1, 9, 0)), [119])

    def test_what_is_wanted_does_not_count(self):
        self.assertEqual(last(begin(wanted=1), ("steady", 1, 9, 0)), [119])
        self.assertEqual(last(begin(wanted=500), ("steady", 1, 9, 0)), [119])

    def test_ranges(self):
        for trays, minutes, frost in (
            (5, 0, 0), (HUGE, 0, 0), (0, 2001, 0), (0, HUGE, 0), (0, 0, 601), (0, 0, HUGE),
            (5, 2000, 600), (4, 2001, 600), (4, 2000, 601), (5, 2001, 601), (HUGE, HUGE, HUGE),
        ):
            with self.subTest(trays=trays, minutes=minutes, frost=frost):
                self.assertEqual(last(STEADY, ("steady", trays, minutes, frost)), [-22])
        for trays, minutes, frost, told in ((0, 0, 0, 0), (0, 0, 600, 600), (4, 2000, 600, 160), (4, 2000, 0, 160)):
            with self.subTest(trays=trays, minutes=minutes, frost=frost):
                self.assertEqual(last(STEADY, ("steady", trays, minutes, frost)), [told])

    def test_places_bound_the_trays(self):
        for places in (1, 2, 11, 12):
            setup = begin(places=places, warm=0)
            self.assertEqual(ask(setup, ("steady", places, 0, 7), ("steady", places + 1, 0, 7))[1:], [[7], [-22]])


class Needs(unittest.TestCase):
    def test_the_fewest(self):
        # Air 190: 0, 20, 38, 54, 68, 81, 92, 102, 111, 119; three places.
        for wanted, pace in ((1, 1), (54, 1), (55, 2), (92, 2), (93, 3), (119, 3), (120, 4)):
            with self.subTest(wanted=wanted):
                self.assertEqual(last(begin(wanted=wanted), ("needs", 1, 0)), [pace])

    def test_a_chain_of_one_place(self):
        for wanted, pace in ((20, 1), (21, 2), (38, 2), (119, 9)):
            with self.subTest(wanted=wanted):
                self.assertEqual(last(begin(places=1, wanted=wanted), ("needs", 1, 0)), [pace])

    def test_by_60_and_not_by_60(self):
        # With slow 500 and this air a tenth a minute: 60 of one place, 120 of two.
        setup = {"base": 300, "warm": 0, "slow": 500}
        self.assertEqual(last(begin(places=1, wanted=60, **setup), ("needs", 0, 0)), [60])
        self.assertEqual(last(begin(places=1, wanted=61, **setup), ("needs", 0, 0)), [-33])
        self.assertEqual(last(begin(places=1, wanted=59, **setup), ("needs", 0, 0)), [59])
        self.assertEqual(last(begin(places=2, wanted=120, **setup), ("needs", 0, 0)), [60])
        self.assertEqual(last(begin(places=2, wanted=121, **setup), ("needs", 0, 0)), [-33])

    def test_it_gets_hard_but_not_by_60(self):
        setup = begin(places=1, base=300, warm=0, slow=500, wanted=61)
        self.assertEqual(ask(setup, ("hardens", 0, 0), ("needs", 0, 0))[1:], [[61], [-33]])

    def test_never_0_even_if_it_is_hard(self):
        self.assertEqual(last(STEADY, ("needs", 1, 150)), [1])
        self.assertEqual(last(STEADY, ("needs", 1, 600)), [1])

    def test_hard_at_first_and_soft_behind_the_places(self):
        # Four minutes in warmer air take four tenths.
        setup = begin(places=4, base=100, warm=0, wanted=150)
        self.assertEqual(ask(setup, ("needs", 0, 154), ("needs", 0, 153))[1:], [[1], [-33]])

    def test_ranges(self):
        for trays, frost in ((5, 0), (HUGE, 0), (0, 601), (0, HUGE), (5, 601), (HUGE, HUGE), (5, 600), (4, 601)):
            with self.subTest(trays=trays, frost=frost):
                self.assertEqual(last(STEADY, ("needs", trays, frost)), [-22])
        for trays, frost in ((0, 600), (4, 600)):
            with self.subTest(trays=trays, frost=frost):
                self.assertEqual(last(STEADY, ("needs", trays, frost)), [1])

    def test_out_of_range_comes_ahead_of_not_so(self):
        self.assertEqual(last(begin(places=2, base=1), ("needs", 3, 0)), [-22])

    def test_the_pace_and_the_door_do_not_count(self):
        asked = ("needs", 1, 0)
        self.assertEqual(last(STEADY, ("every", 60), ("door", 500), asked), last(STEADY, asked))


class Most(unittest.TestCase):
    def test_the_most(self):
        # With slow 1 it's the air's frost: 200 less 10 for each.
        for wanted, trays in ((1, 4), (160, 4), (161, 3), (170, 3), (171, 2), (181, 1), (190, 1)):
            with self.subTest(wanted=wanted):
                self.assertEqual(last(begin(places=4, slow=1, wanted=wanted), ("most", 1, 0)), [trays])

    def test_not_with_one(self):
        self.assertEqual(last(begin(places=4, slow=1, wanted=191), ("most", 60, 0)), [-33])
        # With none it would do, but one is asked for.
        self.assertEqual(last(begin(places=4, slow=1, wanted=200), ("hardens", 0, 0)), [1])
        self.assertEqual(last(begin(places=4, slow=1, wanted=200), ("most", 60, 0)), [-33])

    def test_as_many_as_places_at_most(self):
        for places in (1, 2, 12):
            with self.subTest(places=places):
                self.assertEqual(last(begin(places=places, warm=0, slow=1, wanted=200), ("most", 1, 0)), [places])

    def test_the_minutes_at_each_place_count(self):
        # Three places with one tray, air 190: 54 behind 3 minutes, 92 behind 6, 119 behind 9.
        # With two, air 180: 0, 19, 36, 51, 64, 76, 87.
        setup = {"wanted": 87}
        self.assertEqual(last(begin(**setup), ("most", 1, 0)), [-33])
        self.assertEqual(last(begin(**setup), ("most", 2, 0)), [2])
        self.assertEqual(last(begin(wanted=88), ("most", 2, 0)), [1])
        self.assertEqual(last(begin(wanted=93), ("most", 2, 0)), [-33])
        self.assertEqual(last(begin(wanted=92), ("most", 2, 0)), [1])

    def test_its_own_minutes_and_not_the_chains(self):
        self.assertEqual(last(begin(pace=60, wanted=87), ("most", 1, 0)), [-33])
        self.assertEqual(last(begin(pace=1, wanted=87), ("most", 2, 0)), [2])

    def test_the_frost_it_went_in_with_counts(self):
        self.assertEqual(last(begin(base=1, wanted=150), ("most", 1, 153)), [3])
        self.assertEqual(last(begin(base=1, wanted=150), ("most", 1, 152)), [-33])

    def test_air_with_no_frost_left(self):
        setup = begin(places=12, base=50, warm=50, wanted=1)
        self.assertEqual(ask(setup, ("most", 1, 0), ("most", 1, 12), ("most", 1, 13))[1:], [[-33], [-33], [12]])

    def test_ranges(self):
        for pace, frost in ((0, 0), (61, 0), (HUGE, 0), (1, 601), (1, HUGE), (0, 601), (HUGE, HUGE), (0, 600), (61, 600)):
            with self.subTest(pace=pace, frost=frost):
                self.assertEqual(last(STEADY, ("most", pace, frost)), [-22])
        for pace, frost in ((1, 600), (60, 600)):
            with self.subTest(pace=pace, frost=frost):
                self.assertEqual(last(STEADY, ("most", pace, frost)), [4])

    def test_out_of_range_comes_ahead_of_not_so(self):
        self.assertEqual(last(begin(base=1), ("most", 61, 0)), [-22])
        self.assertEqual(last(begin(base=1), ("most", 0, 0)), [-22])

    def test_the_door_does_not_count(self):
        self.assertEqual(last(STEADY, ("door", 500), ("most", 9, 0)), last(STEADY, ("most", 9, 0)))


class NothingIsChanged(unittest.TestCase):
    def test_by_any_of_these(self):
        busy = (begin(), ("put", 3, 4, 50), ("minutes", 3), ("put", 4, 5, 250), ("door", 9), ("minutes", 1))
        undisturbed = ask(*busy, *future(2))[len(busy):]
        for asked in (
            ("hardens", 1, 0), ("hardens", 4, 0), ("hardens", 3, 0), ("needs", 1, 0), ("needs", 4, 0),
            ("most", 60, 0), ("most", 0, 0), ("most", 1, 0), ("steady", 1, 9, 0), ("steady", 1, 2001, 0),
        ):
            with self.subTest(asked=asked):
                self.assertEqual(ask(*busy, asked, *future(2))[len(busy) + 1:], undisturbed)


if __name__ == "__main__":
    unittest.main()
