"""What holds of all lines, seen on many lines that are made by rule."""

import random
import unittest

from tests.helper import CHANGING, ask, begin, future, last, questions, random_begin, random_line

SEEDS = range(100)


def busy_line(seed):
    """A line that leaves trays on the chain, and how many trays there ever were."""
    rng = random.Random(seed)
    calls = [random_begin(rng)]
    near = calls[0][7]
    for made in range(rng.randint(2, 12)):
        frost = rng.choice((rng.randint(0, 600), rng.randint(max(0, near - 20), near + 20), near))
        calls.append(("put", rng.randint(0, 2), rng.randint(1, 1000), frost))
        calls.append(("minutes", rng.choice((1, 2, rng.randint(1, 9), rng.randint(1, 70)))))
        if made % 4 == 2:
            calls.append(rng.choice((("every", rng.randint(1, 8)), ("door", rng.randint(0, 30)))))
    calls.append(("put", 0, 1, rng.randint(0, 600)))
    given = ask(*calls)
    put = [part for call, part in zip(calls, given) if call[0] == "put" and part[0] >= 0]
    return calls, len(put)


def seen(calls, tray_count):
    """What all questions answer behind these calls."""
    asked = questions(tray_count)
    return dict(zip(asked, ask(*calls, *asked)[len(calls):]))


def waiting(minutes):
    """So many minutes, in pieces that are let."""
    return [("minutes", min(500, minutes - passed)) for passed in range(0, minutes, 500)]


def rows_out(told):
    """Of each tray that came out: its number, the minute, its frost."""
    out = told["out",]
    return [tuple(out[at:at + 3]) for at in range(1, len(out), 3)]


class EveryTrayIsOnTheChainOrOut(unittest.TestCase):
    def check(self, calls, tray_count):
        told = seen(calls, tray_count)
        places, wanted = calls[0][1], calls[0][7]
        looks = [told["look", number] for number in range(tray_count)]
        carried = [number - 1 for number in told["chain",][1:] if number > 0]
        rows = rows_out(told)
        gone = [row[0] for row in rows]
        soft = [row[0] for row in rows if row[2] < wanted]
        self.assertEqual(told["look", tray_count], [-2])
        self.assertEqual(len(told["chain",]), 1 + places)
        # First in, first out: the last put is the nearest to the first place, and all ahead of those are out.
        self.assertEqual(gone + carried[::-1], list(range(tray_count)))
        self.assertEqual([look[4] for look in looks], [0] * len(gone) + [1] * len(carried))
        self.assertEqual([told["ends", number] == [-17] for number in range(tray_count)], [not look[4] for look in looks])
        self.assertEqual(told["sums",], [0, tray_count, len(carried), len(gone), len(soft)])
        self.assertEqual(told["chain",][0], len(carried))
        self.assertEqual(told["out",][0], len(gone))
        self.assertEqual([row[2] for row in rows], [looks[number][2] for number in gone])
        for number, minute, frost in rows:
            self.assertTrue(looks[number][3] < minute <= told["state",][0])
        minutes = [row[1] for row in rows]
        self.assertEqual(minutes, sorted(set(minutes)))
        self.assertEqual(told["soft",], [len(soft), sum(looks[number][1] for number in soft), *soft])
        for flavour in range(10):
            litres = [sum(looks[n][1] for n in numbers if looks[n][0] == flavour) for numbers in (gone, soft)]
            self.assertEqual(told["of", flavour], litres)
        frosts = [row[2] for row in rows]
        mean = [sum(frosts) // len(frosts), min(frosts), max(frosts)] if frosts else [-6]
        self.assertEqual(told["mean",], mean)
        air = last(*calls, ("air", len(carried)))
        self.assertEqual(air[2], air[0] if told["state",][3] == 0 else air[1])

    def test_all_calls_say_the_same_of_each(self):
        for seed in SEEDS:
            calls, trays = busy_line(seed)
            for more in ([], [("minutes", 1)], [("minutes", 20)], waiting(720)):
                with self.subTest(seed=seed, more=more):
                    self.check(calls + more, trays)

    def test_they_say_it_behind_each_call(self):
        for seed in range(25):
            calls, trays = busy_line(seed)
            given = ask(*calls)
            for length in range(1, len(calls) + 1):
                put = sum(1 for call, part in zip(calls[:length], given) if call[0] == "put" and part[0] >= 0)
                with self.subTest(seed=seed, length=length):
                    self.check(calls[:length], put)

    def test_the_lines_have_trays_on_the_chain_and_out_soft_and_hard(self):
        sums = [last(*busy_line(seed)[0], ("sums",)) for seed in SEEDS]
        for which in (2, 3, 4):
            self.assertGreater(sum(1 for told in sums if told[which] > 1), 20)
        self.assertGreater(sum(1 for told in sums if told[3] > told[4]), 20)


class MinutesInWhateverPieces(unittest.TestCase):
    def pieces(self, total, rng):
        while total > 0:
            piece = rng.randint(1, min(total, rng.choice((1, 5, 500))))
            total -= piece
            yield piece

    def test_they_give_the_same(self):
        for seed in SEEDS:
            calls, trays = busy_line(seed)
            rng = random.Random(seed)
            total = rng.randint(2, 500)
            pieces = [("minutes", piece) for piece in self.pieces(total, rng)]
            whole = ask(*calls, ("minutes", total), *future(trays))[len(calls):]
            split = ask(*calls, *pieces, *future(trays))[len(calls):]
            with self.subTest(seed=seed):
                self.assertEqual(split[len(pieces) - 1][0], whole[0][0])
                self.assertEqual(sum(part[1] for part in split[:len(pieces)]), whole[0][1])
                self.assertEqual(split[len(pieces):], whole[1:])


class WhatIsRefusedChangesNothing(unittest.TestCase):
    def test_a_line_without_its_refused_calls_answers_the_same(self):
        for seed in SEEDS:
            calls = random_line(seed, 60)
            given = ask(*calls)
            kept = [index for index, part in enumerate(given) if part[0] >= 0]
            with self.subTest(seed=seed):
                self.assertLess(len(kept), len(calls))
                self.assertEqual(ask(*[calls[index] for index in kept]), [given[index] for index in kept])

    def test_a_line_without_its_refused_calls_goes_on_the_same(self):
        for seed in SEEDS:
            calls = random_line(seed, 60)
            given = ask(*calls)
            kept = [call for call, part in zip(calls, given) if part[0] >= 0]
            trays = last(*calls, ("sums",))[1]
            with self.subTest(seed=seed):
                self.assertEqual(ask(*calls, *future(trays))[len(calls):], ask(*kept, *future(trays))[len(kept):])

    def test_a_line_without_its_questions_answers_the_same(self):
        for seed in SEEDS:
            calls = random_line(seed, 60)
            given = ask(*calls)
            kept = [index for index, call in enumerate(calls) if call[0] in CHANGING]
            with self.subTest(seed=seed):
                self.assertEqual(ask(*[calls[index] for index in kept]), [given[index] for index in kept])

    def test_questions_in_any_order_answer_the_same(self):
        for seed in SEEDS:
            calls, trays = busy_line(seed)
            asked = questions(trays)
            mixed = list(asked)
            random.Random(seed).shuffle(mixed)
            given = ask(*calls, *mixed)[len(calls):]
            with self.subTest(seed=seed):
                self.assertEqual(dict(zip(mixed, given)), seen(calls, trays))


class AheadAndEndsTellWhatMinutesDoes(unittest.TestCase):
    def test_ahead(self):
        for seed in SEEDS:
            calls, trays = busy_line(seed)
            before = seen(calls, trays)
            told = {n: last(*calls, ("ahead", n)) for n in (1, 2, 10, 60, 500)}
            for n, (out, soft, carried) in told.items():
                passed = last(*calls, ("minutes", n))
                after = seen(calls + [("minutes", n)], trays)
                ends = [before["ends", number] for number in range(trays)]
                came = [part for part in ends if part[0] != -17 and part[0] <= n]
                with self.subTest(seed=seed, n=n):
                    self.assertEqual(out, passed[1])
                    self.assertEqual(out, len(came))
                    self.assertEqual(out, after["out",][0] - before["out",][0])
                    self.assertEqual(out, after["sums",][3] - before["sums",][3])
                    self.assertEqual(soft, len([part for part in came if part[1] < calls[0][7]]))
                    self.assertEqual(soft, after["soft",][0] - before["soft",][0])
                    self.assertEqual(soft, after["sums",][4] - before["sums",][4])
                    self.assertEqual(carried, after["chain",][0])
                    self.assertEqual(carried, after["sums",][2])
                    # What came out before is told as before, ahead of what came now.
                    self.assertEqual(rows_out(after)[:before["out",][0]], rows_out(before))

    def test_ends(self):
        for seed in SEEDS:
            calls, trays = busy_line(seed)
            before = seen(calls, trays)
            for number in range(trays):
                told = before["ends", number]
                if told == [-17]:
                    continue
                ahead = calls + waiting(told[0] - 1)
                given = ask(*ahead, ("ends", number), ("look", number), ("minutes", 1), ("ends", number))[-4:]
                after = seen(ahead + [("minutes", 1)], trays)
                with self.subTest(seed=seed, number=number):
                    self.assertEqual(given[0], [1, told[1]])
                    self.assertEqual(given[1][4], 1)
                    self.assertEqual(given[2], [before["state",][0] + told[0], 1])
                    self.assertEqual(given[3], [-17])
                    self.assertEqual(rows_out(after)[-1], (number, given[2][0], told[1]))
                    self.assertEqual(after["look", number], before["look", number][:2] + [told[1]] + given[1][3:4] + [0])

    def test_first_in_first_out(self):
        for seed in SEEDS:
            calls, trays = busy_line(seed)
            ends = ask(*calls, *[("ends", number) for number in range(trays)])[len(calls):]
            times = [part[0] for part in ends]
            with self.subTest(seed=seed):
                self.assertEqual(times, sorted(times))
                waits = [time for time in times if time > 0]
                self.assertEqual(len(set(waits)), len(waits))


def random_steady(seed):
    """A begin, and a frost and trays with which steady air may be asked about."""
    rng = random.Random(seed)
    setup = random_begin(rng)
    return setup, rng.randint(0, setup[1]), rng.choice((0, rng.randint(0, setup[7] - 1), rng.randint(0, 600))), rng


class SteadyAir(unittest.TestCase):
    def test_in_just_so_many_minutes_it_is_hard(self):
        for seed in SEEDS:
            setup, trays, frost, rng = random_steady(seed)
            told = last(setup, ("hardens", trays, frost))[0]
            with self.subTest(seed=seed):
                if told == -33:
                    for minutes in (0, 1, 60, 1999, 2000):
                        self.assertLess(last(setup, ("steady", trays, minutes, frost))[0], setup[7])
                else:
                    self.assertGreaterEqual(last(setup, ("steady", trays, told, frost))[0], setup[7])
                    if told > 0:
                        self.assertLess(last(setup, ("steady", trays, told - 1, frost))[0], setup[7])

    def test_needs_says_what_steady_says(self):
        for seed in SEEDS:
            setup, trays, frost, rng = random_steady(seed)
            asked = [("steady", trays, pace * setup[1], frost) for pace in range(1, 61)]
            given = ask(setup, *asked, ("needs", trays, frost))[1:]
            does = [pace for pace, part in zip(range(1, 61), given) if part[0] >= setup[7]]
            with self.subTest(seed=seed):
                self.assertEqual(given[-1], [min(does) if does else -33])

    def test_most_says_what_steady_says(self):
        for seed in SEEDS:
            setup, trays, frost, rng = random_steady(seed)
            pace = rng.randint(1, rng.choice((3, 60)))
            asked = [("steady", count, pace * setup[1], frost) for count in range(1, setup[1] + 1)]
            given = ask(setup, *asked, ("most", pace, frost))[1:]
            does = [count for count, part in zip(range(1, setup[1] + 1), given) if part[0] >= setup[7]]
            with self.subTest(seed=seed):
                self.assertEqual(given[-1], [max(does) if does else -33])

    def test_a_tray_alone_on_the_chain_has_the_frost_that_steady_says(self):
        for seed in SEEDS:
            setup, trays, frost, rng = random_steady(seed)
            minutes = rng.randint(1, setup[1] * setup[2])
            calls = [setup, ("put", 0, 1, frost), *waiting(minutes)]
            with self.subTest(seed=seed):
                self.assertEqual(last(*calls, ("look", 0))[2], last(setup, ("steady", 1, minutes, frost))[0])
                self.assertEqual(
                    last(setup, ("put", 0, 1, frost), ("ends", 0))[1],
                    last(setup, ("steady", 1, setup[1] * setup[2], frost))[0],
                )

    def test_in_whatever_pieces(self):
        for seed in SEEDS:
            setup, trays, frost, rng = random_steady(seed)
            first, second = rng.randint(0, 100), rng.randint(0, 100)
            halfway = last(setup, ("steady", trays, first, frost))[0]
            with self.subTest(seed=seed):
                self.assertEqual(
                    last(setup, ("steady", trays, first + second, frost)),
                    last(setup, ("steady", trays, second, halfway)),
                )

    def test_frost_comes_nearer_to_what_air_says_and_never_beyond(self):
        for seed in SEEDS:
            setup, trays, frost, rng = random_steady(seed)
            air = last(setup, ("air", trays))[0]
            frosts = [part[0] for part in ask(setup, *[("steady", trays, n, frost) for n in range(60)])[1:]]
            with self.subTest(seed=seed):
                for before, after in zip(frosts, frosts[1:]):
                    if before == air:
                        self.assertEqual(after, air)
                    else:
                        self.assertLess(abs(air - after), abs(air - before))
                        self.assertTrue(min(before, air) <= after <= max(before, air))
                self.assertEqual(last(setup, ("steady", trays, 2000, frost)), [air])

    def test_with_more_trays_no_frost_is_more(self):
        for seed in SEEDS:
            setup, trays, frost, rng = random_steady(seed)
            minutes = rng.randint(0, rng.choice((5, 50, 2000)))
            counts = range(setup[1] + 1)
            frosts = [part[0] for part in ask(setup, *[("steady", n, minutes, frost) for n in counts])[1:]]
            airs = ask(setup, *[("air", n) for n in counts])[1:]
            with self.subTest(seed=seed):
                self.assertEqual(frosts, sorted(frosts, reverse=True))
                for which in (0, 1):
                    told = [part[which] for part in airs]
                    self.assertEqual(told, sorted(told, reverse=True))
                self.assertTrue(all(part[0] >= part[1] >= 0 for part in airs))

    def test_what_began_colder_is_never_softer_in_steady_air(self):
        for seed in SEEDS:
            setup, trays, frost, rng = random_steady(seed)
            minutes = rng.randint(0, rng.choice((5, 50, 2000)))
            frosts = [part[0] for part in ask(setup, *[("steady", trays, minutes, n) for n in range(0, 601, 3)])[1:]]
            with self.subTest(seed=seed):
                self.assertEqual(frosts, sorted(frosts))

    def test_so_slow_a_chain_does_and_a_faster_one_does_not(self):
        for seed in SEEDS:
            rng = random.Random(seed)
            setup = random_begin(rng)
            frost = rng.choice((0, rng.randint(0, 600)))
            told = last(setup, ("needs", 1, frost))[0]
            with self.subTest(seed=seed):
                self.assertTrue(told == -33 or 1 <= told <= 60)
                for pace in range(1, 61):
                    end = last(setup[:2] + (pace,) + setup[3:], ("put", 0, 1, frost), ("ends", 0))
                    if told == -33 or pace < told:
                        self.assertLess(end[1], setup[7])
                    elif pace == told:
                        self.assertGreaterEqual(end[1], setup[7])

    def test_needs_is_what_hardens_tells_shared_out_over_the_places(self):
        for seed in SEEDS:
            rng = random.Random(seed)
            setup = random_begin(rng)
            places, wanted = setup[1], setup[7]
            trays, frost = rng.randint(0, places), rng.randint(0, wanted - 1)
            hard, pace = (part[0] for part in ask(setup, ("hardens", trays, frost), ("needs", trays, frost))[1:])
            with self.subTest(seed=seed):
                if hard == -33 or hard > 60 * places:
                    self.assertEqual(pace, -33)
                else:
                    self.assertEqual(pace, -(-hard // places))

    def test_so_many_trays_do_and_one_more_does_not(self):
        for seed in SEEDS:
            rng = random.Random(seed)
            setup = random_begin(rng)
            places, wanted = setup[1], setup[7]
            pace, frost = rng.randint(1, 60), rng.randint(0, wanted - 1)
            told = last(setup, ("most", pace, frost))[0]
            hard = [part[0] for part in ask(setup, *[("hardens", n, frost) for n in range(places + 1)])[1:]]
            does = [0 <= minutes <= pace * places for minutes in hard]
            with self.subTest(seed=seed):
                if told == -33:
                    self.assertFalse(does[1])
                else:
                    self.assertTrue(does[told])
                    self.assertFalse(any(does[told + 1:]))

    def test_with_more_trays_nothing_is_harder(self):
        for seed in SEEDS:
            setup = random_begin(random.Random(seed))
            told = [part[0] for part in ask(setup, *[("hardens", n, 0) for n in range(setup[1] + 1)])[1:]]
            slowness = [2001 if minutes == -33 else minutes for minutes in told]
            with self.subTest(seed=seed):
                self.assertEqual(slowness, sorted(slowness))

    def test_what_went_in_colder_is_never_softer(self):
        for seed in SEEDS:
            setup = random_begin(random.Random(seed))
            frosts = range(0, 601, 3)
            ends = [last(setup, ("put", 0, 1, frost), ("ends", 0))[1] for frost in frosts]
            told = [part[0] for part in ask(setup, *[("hardens", 1, frost) for frost in frosts])[1:]]
            slowness = [2001 if minutes == -33 else minutes for minutes in told]
            with self.subTest(seed=seed):
                self.assertEqual(ends, sorted(ends))
                self.assertEqual(slowness, sorted(slowness, reverse=True))

    def test_frost_comes_nearer_to_the_airs_and_never_beyond(self):
        for base, slow in ((1, 1), (100, 1), (100, 2), (100, 7), (100, 500), (600, 1), (600, 3), (600, 500)):
            for frost in range(0, 601, 7):
                end = last(
                    begin(places=1, pace=1, base=base, warm=0, slow=slow), ("put", 0, 1, frost), ("ends", 0))[1]
                with self.subTest(base=base, slow=slow, frost=frost):
                    if frost < base:
                        self.assertTrue(frost < end <= base)
                    elif frost > base:
                        self.assertEqual(end, frost - 1)
                    else:
                        self.assertEqual(end, base)


if __name__ == "__main__":
    unittest.main()
