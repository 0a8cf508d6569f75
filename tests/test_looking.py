"""look, chain, sums, state and air."""

import unittest

from tests.helper import HUGE, ask, begin, future, last

# Tray 0 is put at minute 0, tray 1 at 3, tray 2 at 5; moves at 2, 4, 6. Tray 0 is out at 6.
BUSY = [
    begin(), ("put", 3, 4, 600), ("minutes", 3), ("put", 4, 5, 500), ("minutes", 2), ("put", 9, 1000, 300),
]


class Look(unittest.TestCase):
    def test_flavour_litres_frost_minute_and_on_the_chain(self):
        given = ask(*BUSY, ("look", 0), ("look", 1), ("look", 2))[-3:]
        self.assertEqual(given, [[3, 4, 595, 0, 1], [4, 5, 498, 3, 1], [9, 1000, 300, 5, 1]])

    def test_one_that_is_out(self):
        given = ask(*BUSY, ("minutes", 1), ("look", 0), ("look", 1), ("look", 2))[-3:]
        self.assertEqual(given, [[3, 4, 594, 0, 0], [4, 5, 497, 3, 1], [9, 1000, 299, 5, 1]])

    def test_its_frost_stays_as_it_came_out(self):
        for more in ([("minutes", 1)], [("minutes", 2)], [("minutes", 500), ("minutes", 500)]):
            with self.subTest(more=more):
                self.assertEqual(last(*BUSY, *more, ("look", 0)), [3, 4, 594, 0, 0])

    def test_as_it_was_put(self):
        self.assertEqual(last(begin(), ("put", 0, 1, 0), ("look", 0)), [0, 1, 0, 0, 1])
        self.assertEqual(last(begin(), ("minutes", 7), ("put", 9, 1000, 600), ("look", 0)), [9, 1000, 600, 7, 1])

    def test_the_frost_minute_by_minute(self):
        # Air 190: 0, 20, 38, 54.
        given = ask(begin(), ("put", 0, 1, 0), *[("minutes", 1), ("look", 0)] * 3)
        self.assertEqual([part[2] for part in given[3::2]], [20, 38, 54])

    def test_none_such(self):
        self.assertEqual(last(begin(), ("look", 0)), [-2])
        self.assertEqual(last(begin(), ("look", HUGE)), [-2])
        self.assertEqual(last(*BUSY, ("look", 3)), [-2])
        self.assertEqual(last(*BUSY, ("minutes", 500), ("look", 3)), [-2])
        self.assertEqual(last(*BUSY, ("look", 100)), [-2])
        self.assertEqual(last(*BUSY, ("look", HUGE)), [-2])

    def test_a_refused_put_makes_none(self):
        self.assertEqual(last(*BUSY, ("put", 0, 1, 0), ("look", 3)), [-2])
        self.assertEqual(last(*BUSY, ("put", 10, 1, 0), ("look", 3)), [-2])

    def test_all_hundred(self):
        calls = [begin(places=1, pace=1)] + [("put", 7, 8, 190), ("minutes", 1)] * 100
        given = ask(*calls, ("look", 0), ("look", 99), ("look", 100))[-3:]
        self.assertEqual(given, [[7, 8, 190, 0, 0], [7, 8, 190, 99, 0], [-2]])


class Chain(unittest.TestCase):
    def test_none_are_taken(self):
        for places in (1, 2, 12):
            with self.subTest(places=places):
                self.assertEqual(last(begin(places=places), ("chain",)), [0] + [0] * places)

    def test_some_are_taken(self):
        self.assertEqual(last(begin(), ("put", 0, 1, 0), ("chain",)), [1, 1, 0, 0])
        self.assertEqual(last(begin(), ("put", 0, 1, 0), ("minutes", 1), ("chain",)), [1, 1, 0, 0])
        self.assertEqual(last(begin(), ("put", 0, 1, 0), ("minutes", 2), ("chain",)), [1, 0, 1, 0])
        self.assertEqual(last(begin(), ("put", 0, 1, 0), ("minutes", 5), ("chain",)), [1, 0, 0, 1])
        self.assertEqual(last(begin(), ("put", 0, 1, 0), ("minutes", 6), ("chain",)), [0, 0, 0, 0])

    def test_a_place_between_two_is_free(self):
        calls = (begin(), ("put", 0, 1, 0), ("minutes", 4), ("put", 0, 1, 0))
        self.assertEqual(last(*calls, ("chain",)), [2, 2, 0, 1])
        self.assertEqual(last(*calls, ("minutes", 2), ("chain",)), [1, 0, 2, 0])

    def test_all_are_taken(self):
        self.assertEqual(last(*BUSY, ("chain",)), [3, 3, 2, 1])
        full = [begin(places=12, pace=1)] + [("put", 0, 1, 0), ("minutes", 1)] * 11 + [("put", 0, 1, 0)]
        self.assertEqual(last(*full, ("chain",)), [12, 12, 11, 10, 9, 8, 7, 6, 5, 4, 3, 2, 1])
        self.assertEqual(last(*full, ("minutes", 1), ("chain",)), [11, 0, 12, 11, 10, 9, 8, 7, 6, 5, 4, 3, 2])

    def test_a_chain_of_one_place(self):
        given = ask(
            begin(places=1, pace=2), ("chain",), ("put", 0, 1, 0), ("chain",), ("minutes", 1), ("chain",),
            ("minutes", 1), ("chain",), ("put", 0, 1, 0), ("chain",))
        self.assertEqual(given[1::2], [[0, 0], [1, 1], [1, 1], [0, 0], [1, 2]])

    def test_the_hundredth(self):
        calls = [begin(places=1, pace=1)] + [("put", 0, 1, 0), ("minutes", 1)] * 99 + [("put", 0, 1, 0)]
        self.assertEqual(last(*calls, ("chain",)), [1, 100])
        self.assertEqual(last(*calls, ("minutes", 1), ("chain",)), [0, 0])

    def test_the_minutes_from_place_to_place_changed_in_the_midst(self):
        calls = (begin(pace=10), ("put", 0, 1, 0), ("minutes", 4), ("every", 2))
        self.assertEqual(last(*calls, ("chain",)), [1, 1, 0, 0])
        self.assertEqual(last(*calls, ("minutes", 1), ("chain",)), [1, 1, 0, 0])
        self.assertEqual(last(*calls, ("minutes", 2), ("chain",)), [1, 0, 1, 0])

    def test_a_refused_put_is_not_on_it(self):
        self.assertEqual(last(begin(), ("put", 10, 1, 0), ("chain",)), [0, 0, 0, 0])
        self.assertEqual(last(begin(), ("put", 0, 1, 0), ("put", 0, 1, 0), ("chain",)), [1, 1, 0, 0])


class Sums(unittest.TestCase):
    def test_ever_on_the_chain_out_and_soft(self):
        self.assertEqual(last(begin(), ("sums",)), [0, 0, 0, 0, 0])
        self.assertEqual(last(*BUSY, ("sums",)), [0, 3, 3, 0, 0])
        self.assertEqual(last(*BUSY, ("minutes", 1), ("sums",)), [0, 3, 2, 1, 0])
        self.assertEqual(last(*BUSY, ("minutes", 500), ("sums",)), [0, 3, 0, 3, 0])

    def test_soft_ones(self):
        calls = (begin(places=1, pace=1), ("put", 0, 1, 0), ("minutes", 1), ("put", 0, 1, 600), ("minutes", 1))
        self.assertEqual(last(*calls, ("sums",)), [0, 2, 0, 2, 1])
        # One on the chain is soft, but it's not out.
        self.assertEqual(last(*calls, ("put", 0, 1, 0), ("sums",)), [0, 3, 1, 2, 1])

    def test_just_the_frost_that_is_wanted_is_hard(self):
        # One minute in air 190 brings 0 to 20.
        for wanted, soft in ((19, 0), (20, 0), (21, 1)):
            with self.subTest(wanted=wanted):
                calls = (begin(places=1, pace=1, wanted=wanted), ("put", 0, 1, 0), ("minutes", 1), ("sums",))
                self.assertEqual(last(*calls), [0, 1, 0, 1, soft])

    def test_a_refused_put_is_not_counted(self):
        self.assertEqual(last(*BUSY, ("put", 0, 1, 0), ("put", 10, 1, 0), ("sums",)), [0, 3, 3, 0, 0])

    def test_a_hundred(self):
        calls = [begin(places=1, pace=1)] + [("put", 0, 1, 0), ("minutes", 1)] * 100 + [("put", 0, 1, 0)]
        self.assertEqual(ask(*calls, ("sums",))[-2:], [[-28], [0, 100, 0, 100, 100]])


class State(unittest.TestCase):
    def test_as_it_began(self):
        self.assertEqual(last(begin(), ("state",)), [0, 2, 3, 0, 180])
        self.assertEqual(last(("begin", 12, 60, 600, 50, 200, 499, 500), ("state",)), [0, 60, 12, 0, 500])
        self.assertEqual(last(("begin", 1, 1, 1, 0, 0, 1, 1), ("state",)), [0, 1, 1, 0, 1])

    def test_the_minute(self):
        self.assertEqual(last(begin(), ("minutes", 1), ("state",)), [1, 2, 3, 0, 180])
        self.assertEqual(last(begin(), *[("minutes", 500)] * 3, ("state",)), [1500, 2, 3, 0, 180])

    def test_the_minutes_from_place_to_place(self):
        self.assertEqual(last(begin(), ("every", 60), ("state",)), [0, 60, 3, 0, 180])
        self.assertEqual(last(begin(), ("every", 60), ("every", 61), ("state",)), [0, 60, 3, 0, 180])

    def test_the_door(self):
        given = ask(begin(), ("door", 2), *[("state",), ("minutes", 1)] * 4)
        self.assertEqual([part[3] for part in given[2::2]], [2, 1, 0, 0])
        self.assertEqual(last(begin(), ("door", 500), ("state",)), [0, 2, 3, 500, 180])
        self.assertEqual(last(begin(), ("door", 500), ("minutes", 499), ("state",)), [499, 2, 3, 1, 180])
        self.assertEqual(last(begin(), ("door", 9), ("door", 0), ("state",)), [0, 2, 3, 0, 180])
        self.assertEqual(last(begin(), ("door", 9), ("door", 501), ("state",)), [0, 2, 3, 9, 180])

    def test_trays_are_not_in_it(self):
        self.assertEqual(last(*BUSY, ("state",)), [5, 2, 3, 0, 180])


class Air(unittest.TestCase):
    def test_shut_and_open_with_so_many(self):
        given = ask(begin(), *[("air", trays) for trays in range(4)])[1:]
        self.assertEqual([part[:2] for part in given], [[200, 150], [190, 140], [180, 130], [170, 120]])

    def test_as_it_is_now_counts_the_trays_on_the_chain(self):
        self.assertEqual(last(begin(), ("air", 3)), [170, 120, 200])
        self.assertEqual(last(begin(), ("put", 0, 1, 0), ("air", 3)), [170, 120, 190])
        self.assertEqual(last(*BUSY, ("air", 0)), [200, 150, 170])
        self.assertEqual(last(*BUSY, ("minutes", 1), ("air", 0)), [200, 150, 180])
        self.assertEqual(last(*BUSY, ("minutes", 500), ("air", 0)), [200, 150, 200])

    def test_as_it_is_now_counts_the_door(self):
        calls = (begin(), ("put", 0, 1, 0), ("door", 2))
        self.assertEqual(last(*calls, ("air", 2)), [180, 130, 140])
        # It's in its last minute, and then it's shut.
        self.assertEqual(last(*calls, ("minutes", 1), ("air", 2)), [180, 130, 140])
        self.assertEqual(last(*calls, ("minutes", 2), ("air", 2)), [180, 130, 190])
        self.assertEqual(last(*calls, ("door", 0), ("air", 2)), [180, 130, 190])

    def test_the_air_of_now_is_what_changes_a_tray(self):
        # With slow 1 a softer tray has the air's frost a minute later.
        for door in (0, 1, 2):
            with self.subTest(door=door):
                calls = (begin(pace=60, slow=1), ("put", 0, 1, 0), ("door", door), ("air", 0), ("minutes", 1), ("look", 0))
                given = ask(*calls)
                self.assertEqual(given[3][2], given[5][2])

    def test_no_frost_left(self):
        setup = begin(places=3, base=100, warm=40, opened=60)
        given = ask(setup, *[("air", trays) for trays in range(4)])[1:]
        self.assertEqual(given, [[100, 40, 100], [60, 0, 100], [20, 0, 100], [0, 0, 100]])
        self.assertEqual(last(setup, ("put", 0, 1, 0), ("door", 1), ("air", 1)), [60, 0, 0])
        self.assertEqual(last(begin(base=1, warm=0, opened=200), ("door", 1), ("air", 0)), [1, 0, 0])
        self.assertEqual(last(begin(base=50, warm=50, opened=0), ("air", 1)), [0, 0, 50])
        full = (begin(places=2, pace=1, base=60, warm=50), ("put", 0, 1, 0), ("minutes", 1), ("put", 0, 1, 0))
        self.assertEqual(last(*full, ("air", 0)), [60, 10, 0])

    def test_neither_warms(self):
        self.assertEqual(last(begin(base=1, warm=0, opened=0), ("door", 1), ("put", 0, 1, 0), ("air", 3)), [1, 1, 1])

    def test_ranges(self):
        for places in (1, 3, 12):
            with self.subTest(places=places):
                setup = begin(places=places, warm=0, opened=0)
                given = ask(setup, ("air", 0), ("air", places), ("air", places + 1), ("air", HUGE))[1:]
                self.assertEqual(given, [[200, 200, 200], [200, 200, 200], [-22], [-22]])

    def test_more_than_places_whatever_is_on_the_chain(self):
        self.assertEqual(last(*BUSY, ("air", 4)), [-22])
        self.assertEqual(last(*BUSY, ("door", 5), ("air", HUGE)), [-22])


class NothingIsChanged(unittest.TestCase):
    def test_by_any_of_these(self):
        calls = (*BUSY, ("door", 9), ("minutes", 1), ("every", 5))
        undisturbed = ask(*calls, *future(3))[len(calls):]
        for asked in (
            ("look", 0), ("look", 1), ("look", 3), ("chain",), ("sums",), ("state",), ("air", 0), ("air", 3), ("air", 4),
        ):
            with self.subTest(asked=asked):
                self.assertEqual(ask(*calls, asked, *future(3))[len(calls) + 1:], undisturbed)


if __name__ == "__main__":
    unittest.main()
