"""ahead and ends."""

import unittest

from tests.helper import HUGE, ask, begin, future, last


class Ahead(unittest.TestCase):
    def test_ranges(self):
        for n in (0, 501, HUGE):
            with self.subTest(n=n):
                self.assertEqual(last(begin(), ("ahead", n)), [-22])
        for n in (1, 2, 499, 500):
            with self.subTest(n=n):
                self.assertEqual(last(begin(), ("ahead", n)), [0, 0, 0])

    def test_out_soft_and_on_the_chain(self):
        # Put at minutes 0, 1, 2 with frosts 300, 0, 250; out at 4, 5, 6 with wanted 180.
        calls = [begin(places=4, pace=1, slow=500)]
        for frost in (300, 0, 250):
            calls += [("put", 0, 1, frost), ("minutes", 1)]
        asked = [("ahead", n) for n in (1, 2, 3, 4, 500)]
        self.assertEqual(ask(*calls, *asked)[-5:], [[1, 0, 2], [2, 1, 1], [3, 1, 0], [3, 1, 0], [3, 1, 0]])

    def test_those_that_are_out_already_are_not_told(self):
        calls = (begin(places=1, pace=1), ("put", 0, 1, 0), ("minutes", 1), ("put", 0, 1, 600))
        self.assertEqual(last(*calls, ("ahead", 500)), [1, 0, 0])

    def test_just_the_frost_that_is_wanted_is_hard(self):
        # One minute in air 190 brings 0 to 20.
        for wanted, soft in ((19, 0), (20, 0), (21, 1)):
            with self.subTest(wanted=wanted):
                calls = (begin(places=1, pace=1, wanted=wanted), ("put", 0, 1, 0), ("ahead", 1))
                self.assertEqual(last(*calls), [1, soft, 0])

    def test_soft_is_told_of_the_frost_with_which_it_comes_out(self):
        # Hard when it's put and soft when it's out, and the other way round.
        self.assertEqual(last(begin(places=1, pace=5, base=20, wanted=30), ("put", 0, 1, 34), ("ahead", 5)), [1, 1, 0])
        self.assertEqual(last(begin(places=1, pace=4, base=20, wanted=30), ("put", 0, 1, 34), ("ahead", 4)), [1, 0, 0])
        self.assertEqual(last(begin(places=1, pace=4, slow=1, wanted=190), ("put", 0, 1, 0), ("ahead", 4)), [1, 0, 0])

    def test_the_minute_in_which_it_moves(self):
        calls = (begin(places=1, pace=6), ("minutes", 2), ("put", 0, 1, 0))
        self.assertEqual(ask(*calls, ("ahead", 3), ("ahead", 4))[-2:], [[0, 0, 1], [1, 1, 0]])


class Ends(unittest.TestCase):
    def test_none_such(self):
        self.assertEqual(last(begin(), ("ends", 0)), [-2])
        self.assertEqual(last(begin(), ("ends", HUGE)), [-2])
        self.assertEqual(
            ask(begin(), ("put", 0, 1, 0), ("ends", 0), ("ends", 1), ("ends", HUGE))[2:],
            [[6, 92], [-2], [-2]],
        )

    def test_a_refused_put_makes_no_tray(self):
        self.assertEqual(last(begin(), ("put", 0, 1, 0), ("put", 0, 1, 0), ("ends", 1)), [-2])

    def test_it_is_out(self):
        calls = (begin(places=2, pace=3), ("put", 0, 1, 0), ("minutes", 5), ("put", 0, 1, 0))
        self.assertEqual(last(*calls, ("ends", 0))[0], 1)
        # The second has a minute in air 180, 0 to 19, and then three alone in air 190: 37, 53, 67.
        self.assertEqual(ask(*calls, ("minutes", 1), ("ends", 0), ("ends", 1), ("ends", 2))[-3:], [[-17], [3, 67], [-2]])
        self.assertEqual(last(*calls, ("minutes", 500), ("ends", 1)), [-17])

    def test_all_hundred_are_known_when_they_are_out(self):
        calls = [begin(places=1, pace=1)] + [("put", 0, 1, 0), ("minutes", 1)] * 100
        asked = [("ends", 0), ("ends", 99), ("ends", 100)]
        self.assertEqual(ask(*calls, *asked)[-3:], [[-17], [-17], [-2]])

    def test_the_longest_way(self):
        self.assertEqual(last(begin(places=12, pace=60), ("put", 0, 1, 0), ("ends", 0)), [720, 190])
        self.assertEqual(
            last(begin(places=12, pace=60, base=600, warm=0, slow=500), ("put", 0, 1, 0), ("minutes", 59), ("ends", 0))[0],
            661,
        )

    def test_from_each_minute_on(self):
        for waited in range(1, 12):
            with self.subTest(waited=waited):
                calls = (begin(places=3, pace=4), ("put", 0, 1, 0), ("minutes", waited), ("ends", 0))
                self.assertEqual(last(*calls)[0], 12 - waited)

    def test_put_between_two_moves(self):
        for waited in range(1, 9):
            with self.subTest(waited=waited):
                calls = (begin(places=3, pace=4), ("minutes", waited), ("put", 0, 1, 0), ("ends", 0))
                self.assertEqual(last(*calls)[0], 12 - waited % 4)

    def test_the_door_and_the_others_are_counted_in(self):
        # Put at 0 and 1; the door is open in the second minute alone. Air: 190, 130, 190.
        calls = (begin(places=2, pace=1, slow=1), ("put", 0, 1, 0), ("minutes", 1), ("put", 0, 1, 0), ("door", 1))
        self.assertEqual(ask(*calls, ("ends", 0), ("ends", 1))[-2:], [[1, 189], [2, 190]])
        calls = (begin(places=2, pace=1, slow=500), ("put", 0, 1, 160), ("minutes", 1), ("put", 0, 1, 130), ("door", 1))
        self.assertEqual(ask(*calls, ("ends", 0), ("ends", 1))[-2:], [[1, 160], [2, 131]])


class NothingIsChanged(unittest.TestCase):
    BUSY = (begin(), ("put", 3, 4, 50), ("minutes", 3), ("put", 4, 5, 250), ("door", 9), ("every", 5), ("minutes", 1))

    def test_by_ahead_and_ends(self):
        undisturbed = ask(*self.BUSY, *future(2))[len(self.BUSY):]
        for asked in (("ahead", 1), ("ahead", 500), ("ahead", 0), ("ends", 0), ("ends", 1), ("ends", 2)):
            with self.subTest(asked=asked):
                self.assertEqual(ask(*self.BUSY, asked, *future(2))[len(self.BUSY) + 1:], undisturbed)

    def test_asked_again_it_is_the_same(self):
        for asked in (("ahead", 20), ("ends", 0), ("ends", 1)):
            with self.subTest(asked=asked):
                given = ask(*self.BUSY, asked, asked, asked)[-3:]
                self.assertEqual(given, [given[0]] * 3)


if __name__ == "__main__":
    unittest.main()
