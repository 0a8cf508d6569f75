"""soft, out, of and mean."""

import unittest

from tests.helper import HUGE, ask, begin, future, last, questions

# A tray is out a minute behind its put. With air 190 and slow 500 it's a tenth nearer to 190 then.
ONE_PLACE = begin(places=1, pace=1, base=200, warm=10, slow=500, wanted=100)

# Flavour, litres, frost; and the frost with which it comes out.
TRAYS = (
    (3, 20, 99, 100),
    (3, 30, 98, 99),
    (4, 40, 500, 499),
    (3, 50, 0, 1),
    (0, 60, 98, 99),
    (9, 1000, 190, 190),
)


def passed(*trays):
    """Calls that put these on a chain of one place, one behind another, until each is out."""
    calls = [ONE_PLACE]
    for flavour, litres, frost, end in trays:
        calls += [("put", flavour, litres, frost), ("minutes", 1)]
    return calls


SIX_OUT = passed(*TRAYS)

# Three places: tray 0 is put at minute 0, tray 1 at 2, tray 2 at 4; out at 6, 8, 10.
ON_THE_WAY = [begin(), ("put", 1, 7, 0), ("minutes", 2), ("put", 1, 8, 600), ("minutes", 2), ("put", 2, 9, 180)]


class Soft(unittest.TestCase):
    def test_how_many_the_litres_and_which(self):
        self.assertEqual(last(*SIX_OUT, ("soft",)), [3, 140, 1, 3, 4])

    def test_none_came_out(self):
        self.assertEqual(last(begin(), ("soft",)), [0, 0])

    def test_what_is_on_the_chain_is_not_told(self):
        self.assertEqual(last(*ON_THE_WAY, ("soft",)), [0, 0])
        self.assertEqual(last(*ON_THE_WAY, ("minutes", 1), ("soft",)), [0, 0])
        self.assertEqual(last(*ON_THE_WAY, ("minutes", 2), ("soft",)), [1, 7, 0])

    def test_all_that_came_out_are_hard(self):
        self.assertEqual(last(*passed(TRAYS[0], TRAYS[2], TRAYS[5]), ("soft",)), [0, 0])

    def test_just_the_frost_that_is_wanted_is_hard(self):
        self.assertEqual(last(*passed((0, 5, 99, 100)), ("soft",)), [0, 0])
        self.assertEqual(last(*passed((0, 5, 98, 99)), ("soft",)), [1, 5, 0])

    def test_it_is_told_of_the_frost_with_which_it_came_out(self):
        # Soft when it was put and hard when it came out, and the other way round.
        self.assertEqual(last(*passed((0, 5, 99, 100)), ("soft",)), [0, 0])
        warm = begin(places=1, pace=1, base=10, warm=0, slow=500, wanted=100)
        self.assertEqual(last(warm, ("put", 0, 5, 100), ("minutes", 1), ("soft",)), [1, 5, 0])

    def test_a_hundred(self):
        calls = passed(*[(0, 1000, 0, 1)] * 100)
        self.assertEqual(last(*calls, ("soft",)), [100, 100000, *range(100)])


class Out(unittest.TestCase):
    def test_number_minute_and_frost_of_each(self):
        self.assertEqual(
            last(*SIX_OUT, ("out",)),
            [6, 0, 1, 100, 1, 2, 99, 2, 3, 499, 3, 4, 1, 4, 5, 99, 5, 6, 190],
        )

    def test_none_came_out(self):
        self.assertEqual(last(begin(), ("out",)), [0])

    def test_what_is_on_the_chain_is_not_told(self):
        self.assertEqual(last(*ON_THE_WAY, ("out",)), [0])
        self.assertEqual(last(*ON_THE_WAY, ("minutes", 1), ("out",)), [0])

    def test_one_behind_another(self):
        # Air 190, 190, 180, 180, 170, 170 for tray 0: 0, 20, 38, 53, 66, 77, 87.
        told = [ask(*ON_THE_WAY, ("minutes", n), ("out",))[-1] for n in (2, 3, 4)]
        self.assertEqual(told[0], [1, 0, 6, 87])
        self.assertEqual(told[1], told[0])
        # Tray 1 is always colder than the air: six minutes take six tenths.
        self.assertEqual(told[2], [2, 0, 6, 87, 1, 8, 594])

    def test_the_minute_is_that_of_the_move_and_stays(self):
        calls = (begin(places=1, pace=7), ("minutes", 9), ("put", 0, 1, 600), ("minutes", 500), ("out",))
        self.assertEqual(last(*calls), [1, 0, 14, 595])

    def test_the_frost_stays_what_it_was_when_it_came_out(self):
        first = last(*SIX_OUT, ("out",))
        self.assertEqual(last(*SIX_OUT, ("door", 50), ("minutes", 500), ("out",)), first)

    def test_the_minutes_from_place_to_place_changed_in_the_midst(self):
        calls = (
            begin(places=2, pace=10, slow=1), ("put", 0, 1, 0), ("minutes", 4), ("every", 3), ("minutes", 500), ("out",))
        self.assertEqual(last(*calls), [1, 0, 9, 190])

    def test_the_door_open_in_the_last_minute(self):
        calls = (begin(places=1, pace=3, slow=1), ("put", 0, 1, 0), ("minutes", 2), ("door", 1), ("minutes", 1))
        self.assertEqual(last(*calls, ("out",)), [1, 0, 3, 189])

    def test_a_hundred(self):
        given = last(*passed(*[(0, 1, 0, 1)] * 100), ("out",))
        self.assertEqual(given[0], 100)
        self.assertEqual(given[1::3], list(range(100)))
        self.assertEqual(given[2::3], list(range(1, 101)))
        self.assertEqual(given[3::3], [1] * 100)


class Of(unittest.TestCase):
    def test_litres_that_came_out_and_litres_soft(self):
        given = ask(*SIX_OUT, *[("of", flavour) for flavour in range(10)])[-10:]
        self.assertEqual(
            given,
            [[60, 60], [0, 0], [0, 0], [100, 80], [40, 0], [0, 0], [0, 0], [0, 0], [0, 0], [1000, 0]],
        )

    def test_what_is_on_the_chain_is_not_told(self):
        self.assertEqual(last(*ON_THE_WAY, ("of", 1)), [0, 0])
        self.assertEqual(last(*ON_THE_WAY, ("minutes", 1), ("of", 1)), [0, 0])
        self.assertEqual(last(*ON_THE_WAY, ("minutes", 2), ("of", 1)), [7, 7])
        self.assertEqual(last(*ON_THE_WAY, ("minutes", 4), ("of", 1)), [15, 7])
        self.assertEqual(last(*ON_THE_WAY, ("minutes", 4), ("of", 2)), [0, 0])

    def test_just_the_frost_that_is_wanted_is_hard(self):
        self.assertEqual(last(*passed((7, 5, 99, 100)), ("of", 7)), [5, 0])
        self.assertEqual(last(*passed((7, 5, 98, 99)), ("of", 7)), [5, 5])

    def test_ranges(self):
        for flavour in (10, 11, HUGE):
            with self.subTest(flavour=flavour):
                self.assertEqual(last(begin(), ("of", flavour)), [-22])
                self.assertEqual(last(*SIX_OUT, ("of", flavour)), [-22])
        for flavour in (0, 9):
            with self.subTest(flavour=flavour):
                self.assertEqual(last(begin(), ("of", flavour)), [0, 0])

    def test_a_hundred_of_one_flavour(self):
        calls = passed(*[(5, 1000, 99, 100)] * 50 + [(5, 1000, 0, 1)] * 50)
        self.assertEqual(last(*calls, ("of", 5)), [100000, 50000])


class Mean(unittest.TestCase):
    def test_mean_least_and_greatest(self):
        # 100 + 99 + 499 + 1 + 99 + 190 = 988, and 988 // 6 = 164.
        self.assertEqual(last(*SIX_OUT, ("mean",)), [164, 1, 499])

    def test_rounded_down(self):
        for frosts, mean in (((100, 101), 100), ((100, 100, 102), 100), ((100, 102, 102), 101), ((100, 102), 101)):
            with self.subTest(frosts=frosts):
                calls = passed(*[(0, 1, frost - 1, frost) for frost in frosts])
                self.assertEqual(last(*calls, ("mean",)), [mean, min(frosts), max(frosts)])

    def test_litres_do_not_weigh(self):
        self.assertEqual(last(*passed((0, 1000, 99, 100), (0, 1, 109, 110)), ("mean",)), [105, 100, 110])

    def test_one_alone(self):
        self.assertEqual(last(*passed(TRAYS[2]), ("mean",)), [499, 499, 499])

    def test_the_least_and_the_greatest_wherever_they_came(self):
        for order in ((10, 20, 30), (30, 20, 10), (20, 10, 30), (20, 30, 10)):
            with self.subTest(order=order):
                calls = passed(*[(0, 1, frost - 1, frost) for frost in order])
                self.assertEqual(last(*calls, ("mean",)), [20, 10, 30])

    def test_none_on_an_empty_chain(self):
        self.assertEqual(last(begin(), ("mean",)), [-6])
        self.assertEqual(last(begin(), ("minutes", 500), ("mean",)), [-6])

    def test_none_as_long_as_none_came_out(self):
        self.assertEqual(last(begin(), ("put", 0, 1, 0), ("mean",)), [-6])
        self.assertEqual(last(*ON_THE_WAY, ("mean",)), [-6])
        self.assertEqual(last(*ON_THE_WAY, ("minutes", 1), ("mean",)), [-6])
        self.assertEqual(last(*ON_THE_WAY, ("minutes", 2), ("mean",)), [87, 87, 87])

    def test_what_is_on_the_chain_does_not_count(self):
        self.assertEqual(last(*SIX_OUT, ("put", 0, 1, 600), ("mean",)), [164, 1, 499])

    def test_none_again_behind_a_new_begin(self):
        self.assertEqual(last(*SIX_OUT, begin(), ("mean",)), [-6])

    def test_a_frost_of_0(self):
        calls = (begin(places=1, pace=1, base=1, warm=50), ("put", 0, 1, 1), ("minutes", 1))
        self.assertEqual(last(*calls, ("mean",)), [0, 0, 0])


class NothingIsChanged(unittest.TestCase):
    def test_by_any_of_these(self):
        busy = (*SIX_OUT, ("put", 1, 2, 3), ("door", 4))
        undisturbed = ask(*busy, *future(7))[len(busy):]
        for asked in (("soft",), ("out",), ("of", 3), ("of", 10), ("mean",)):
            with self.subTest(asked=asked):
                self.assertEqual(ask(*busy, asked, *future(7))[len(busy) + 1:], undisturbed)

    def test_asked_again_it_is_the_same(self):
        given = ask(*SIX_OUT, *questions(6), *questions(6))[len(SIX_OUT):]
        half = len(given) // 2
        self.assertEqual(given[:half], given[half:])


if __name__ == "__main__":
    unittest.main()
