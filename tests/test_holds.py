"""What holds of all lines, seen on many lines that are made by rule."""

import random
import unittest

from tests.helper import ask, begin, future, last, random_begin, random_line

SEEDS = range(150)


def busy_line(seed):
    """A line that leaves trays on the chain, and how many trays there ever were."""
    calls = [call for call in random_line(seed, 25) if call[0] in ("begin", "put", "minutes", "every", "door")]
    rng = random.Random(seed)
    calls += [("put", 0, 1, rng.randint(0, 600)), ("minutes", rng.randint(1, 5)), ("put", 0, 1, rng.randint(0, 600))]
    given = ask(*calls)
    put = [part for call, part in zip(calls, given) if call[0] == "put" and part[0] >= 0]
    return calls, len(put)


class MinutesInWhateverPieces(unittest.TestCase):
    def pieces(self, total, rng):
        while total > 0:
            piece = rng.randint(1, min(total, rng.choice((1, 5, 500))))
            total -= piece
            yield piece

    def test_they_give_the_same(self):
        for seed in SEEDS:
            calls, trays = busy_line(seed)
            rng = random.Random(seed)
            total = rng.randint(2, 500)
            pieces = [("minutes", piece) for piece in self.pieces(total, rng)]
            whole = ask(*calls, ("minutes", total), *future(trays))[len(calls):]
            split = ask(*calls, *pieces, *future(trays))[len(calls):]
            with self.subTest(seed=seed):
                self.assertEqual(split[len(pieces) - 1][0], whole[0][0])
                self.assertEqual(sum(part[1] for part in split[:len(pieces)]), whole[0][1])
                self.assertEqual(split[len(pieces):], whole[1:])


class WhatIsRefusedChangesNothing(unittest.TestCase):
    def test_a_line_without_its_refused_calls_answers_the_same(self):
        for seed in SEEDS:
            calls = random_line(seed, 60)
            given = ask(*calls)
            kept = [index for index, part in enumerate(given) if part[0] >= 0]
            with self.subTest(seed=seed):
                self.assertLess(len(kept), len(calls))
                self.assertEqual(ask(*[calls[index] for index in kept]), [given[index] for index in kept])

    def test_a_line_without_its_questions_answers_the_same(self):
        changing = ("begin", "put", "minutes", "every", "door")
        for seed in SEEDS:
            calls = random_line(seed, 60)
            given = ask(*calls)
            kept = [index for index, call in enumerate(calls) if call[0] in changing]
            with self.subTest(seed=seed):
                self.assertEqual(ask(*[calls[index] for index in kept]), [given[index] for index in kept])


class AheadAndEndsTellWhatMinutesDoes(unittest.TestCase):
    def test_ahead(self):
        for seed in SEEDS:
            calls, trays = busy_line(seed)
            told = {n: last(*calls, ("ahead", n)) for n in (1, 2, 10, 60, 500)}
            for n, (out, soft, carried) in told.items():
                asked = [("ends", number) for number in range(trays)]
                given = ask(*calls, *asked, ("minutes", n), *asked)[len(calls):]
                before, passed, after = given[:trays], given[trays], given[trays + 1:]
                wanted = calls[0][7]
                came = [part for part in before if part[0] != -17 and part[0] <= n]
                with self.subTest(seed=seed, n=n):
                    self.assertEqual(out, passed[1])
                    self.assertEqual(out, len(came))
                    self.assertEqual(soft, len([part for part in came if part[1] < wanted]))
                    self.assertEqual(carried, len([part for part in after if part != [-17]]))

    def test_ends(self):
        for seed in SEEDS:
            calls, trays = busy_line(seed)
            for number in range(trays):
                told = last(*calls, ("ends", number))
                if told == [-17]:
                    continue
                waits = [("minutes", 1)] * (told[0] - 1)
                given = ask(*calls, *waits, ("ends", number), ("minutes", 1), ("ends", number))[-3:]
                with self.subTest(seed=seed, number=number):
                    self.assertEqual(given[0], [1, told[1]])
                    self.assertEqual(given[1][1], 1)
                    self.assertEqual(given[2], [-17])

    def test_first_in_first_out(self):
        for seed in SEEDS:
            calls, trays = busy_line(seed)
            ends = ask(*calls, *[("ends", number) for number in range(trays)])[len(calls):]
            times = [part[0] for part in ends]
            with self.subTest(seed=seed):
                self.assertEqual(times, sorted(times))
                waits = [time for time in times if time > 0]
                self.assertEqual(len(set(waits)), len(waits))


def lone_frost(setup, minutes, frost):
    """The frost behind so many minutes of one tray alone on a long chain, told by ends."""
    places = 1 if minutes <= 60 else 12
    pace = minutes if minutes <= 60 else minutes // 12
    changed = ("begin", places, pace) + setup[3:]
    return last(changed, ("put", 0, 1, frost), ("ends", 0))[1]


class SteadyAir(unittest.TestCase):
    def test_in_just_so_many_minutes_it_is_hard(self):
        for seed in SEEDS:
            rng = random.Random(seed)
            setup = random_begin(rng)
            frost = rng.choice((0, rng.randint(0, 600)))
            told = last(setup, ("hardens", 1, frost))[0]
            wanted = setup[7]
            with self.subTest(seed=seed):
                if told == -33:
                    self.assertLess(lone_frost(setup, 60, frost), wanted)
                    self.assertLess(lone_frost(setup, 720, frost), wanted)
                elif told == 0:
                    self.assertGreaterEqual(frost, wanted)
                elif told <= 60:
                    self.assertGreaterEqual(lone_frost(setup, told, frost), wanted)
                    before = frost if told == 1 else lone_frost(setup, told - 1, frost)
                    self.assertLess(before, wanted)

    def test_so_slow_a_chain_does_and_a_faster_one_does_not(self):
        for seed in SEEDS:
            rng = random.Random(seed)
            setup = random_begin(rng)
            frost = rng.choice((0, rng.randint(0, 600)))
            told = last(setup, ("needs", 1, frost))[0]
            with self.subTest(seed=seed):
                self.assertTrue(told == -33 or 1 <= told <= 60)
                for pace in range(1, 61):
                    end = last(setup[:2] + (pace,) + setup[3:], ("put", 0, 1, frost), ("ends", 0))
                    if told == -33 or pace < told:
                        self.assertLess(end[1], setup[7])
                    elif pace == told:
                        self.assertGreaterEqual(end[1], setup[7])

    def test_needs_is_what_hardens_tells_shared_out_over_the_places(self):
        for seed in SEEDS:
            rng = random.Random(seed)
            setup = random_begin(rng)
            places, wanted = setup[1], setup[7]
            trays, frost = rng.randint(0, places), rng.randint(0, wanted - 1)
            hard, pace = (part[0] for part in ask(setup, ("hardens", trays, frost), ("needs", trays, frost))[1:])
            with self.subTest(seed=seed):
                if hard == -33 or hard > 60 * places:
                    self.assertEqual(pace, -33)
                else:
                    self.assertEqual(pace, -(-hard // places))

    def test_so_many_trays_do_and_one_more_does_not(self):
        for seed in SEEDS:
            rng = random.Random(seed)
            setup = random_begin(rng)
            places, wanted = setup[1], setup[7]
            pace, frost = rng.randint(1, 60), rng.randint(0, wanted - 1)
            told = last(setup, ("most", pace, frost))[0]
            hard = [part[0] for part in ask(setup, *[("hardens", n, frost) for n in range(places + 1)])[1:]]
            does = [0 <= minutes <= pace * places for minutes in hard]
            with self.subTest(seed=seed):
                if told == -33:
                    self.assertFalse(does[1])
                else:
                    self.assertTrue(does[told])
                    self.assertFalse(any(does[told + 1:]))

    def test_with_more_trays_nothing_is_harder(self):
        for seed in SEEDS:
            setup = random_begin(random.Random(seed))
            told = [part[0] for part in ask(setup, *[("hardens", n, 0) for n in range(setup[1] + 1)])[1:]]
            slowness = [2001 if minutes == -33 else minutes for minutes in told]
            with self.subTest(seed=seed):
                self.assertEqual(slowness, sorted(slowness))

    def test_what_went_in_colder_is_never_softer(self):
        for seed in SEEDS:
            setup = random_begin(random.Random(seed))
            frosts = range(0, 601, 3)
            ends = [last(setup, ("put", 0, 1, frost), ("ends", 0))[1] for frost in frosts]
            told = [part[0] for part in ask(setup, *[("hardens", 1, frost) for frost in frosts])[1:]]
            slowness = [2001 if minutes == -33 else minutes for minutes in told]
            with self.subTest(seed=seed):
                self.assertEqual(ends, sorted(ends))
                self.assertEqual(slowness, sorted(slowness, reverse=True))

    def test_frost_comes_nearer_to_the_airs_and_never_beyond(self):
        for base, slow in ((1, 1), (100, 1), (100, 2), (100, 7), (100, 500), (600, 1), (600, 3), (600, 500)):
            for frost in range(0, 601, 7):
                end = last(
                    begin(places=1, pace=1, base=base, warm=0, slow=slow), ("put", 0, 1, frost), ("ends", 0))[1]
                with self.subTest(base=base, slow=slow, frost=frost):
                    if frost < base:
                        self.assertTrue(frost < end <= base)
                    elif frost > base:
                        self.assertEqual(end, frost - 1)
                    else:
                        self.assertEqual(end, base)


if __name__ == "__main__":
    unittest.main()
