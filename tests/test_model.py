"""Lines of all kinds, held against a second telling of the document that counts everything out."""

import copy
import random
import unittest

from tests.helper import HUGE, ask, questions, random_begin, random_call, random_line


class Model:
    """Slow and plain: a tray is [minute put, place or None, frost, flavour, litres], places counted from 1.

    What came out is written down when it comes: a list of (number, minute, frost, flavour, litres).
    """

    def __init__(self):
        self.told = None

    def begin(self, *told):
        ranges = ((1, 12), (1, 60), (1, 600), (0, 50), (0, 200), (1, 500), (1, 500))
        if any(number not in range(low, high + 1) for number, (low, high) in zip(told, ranges)):
            return [-22]
        self.told, self.pace = told, told[1]
        self.now, self.open_for, self.trays, self.log = 0, 0, [], []
        return [0]

    def air(self, trays, is_open):
        cold = self.told[2] - trays * self.told[3] - (self.told[4] if is_open else 0)
        return cold if cold > 0 else 0

    def step(self, frost, air):
        if frost == air:
            return frost
        if frost > air:
            return frost - 1
        nearer = frost + 1 + (air - frost) // self.told[5]
        return air if nearer > air else nearer

    def minute(self):
        riding = [tray for tray in self.trays if tray[1] is not None]
        air = self.air(len(riding), self.open_for != 0)
        for tray in riding:
            tray[2] = self.step(tray[2], air)
        self.now += 1
        if self.open_for:
            self.open_for -= 1
        out = []
        if self.now % self.pace == 0:
            for tray in riding:
                tray[1] += 1
                if tray[1] > self.told[0]:
                    tray[1] = None
                    out.append(tray)
                    number = [other is tray for other in self.trays].index(True)
                    self.log.append((number, self.now, *tray[2:]))
        return out

    def put(self, flavour, litres, frost):
        if flavour > 9 or litres < 1 or litres > 1000 or frost > 600:
            return [-22]
        if any(tray[1] == 1 for tray in self.trays):
            return [-16]
        if len(self.trays) >= 100:
            return [-28]
        self.trays.append([self.now, 1, frost, flavour, litres])
        return [len(self.trays) - 1]

    def minutes(self, n):
        if not 1 <= n <= 500:
            return [-22]
        out = sum(len(self.minute()) for passed in range(n))
        return [self.now, out]

    def every(self, pace):
        if not 1 <= pace <= 60:
            return [-22]
        before, self.pace = self.pace, pace
        return [before]

    def door(self, n):
        if n > 500:
            return [-22]
        before, self.open_for = self.open_for, n
        return [before]

    def ahead(self, n):
        if not 1 <= n <= 500:
            return [-22]
        other = copy.deepcopy(self)
        out = [tray for passed in range(n) for tray in other.minute()]
        soft = [tray for tray in out if tray[2] < self.told[6]]
        return [len(out), len(soft), sum(tray[1] is not None for tray in other.trays)]

    def ends(self, tray):
        if tray >= len(self.trays):
            return [-2]
        if self.trays[tray][1] is None:
            return [-17]
        other = copy.deepcopy(self)
        waited = 0
        while other.trays[tray][1] is not None:
            other.minute()
            waited += 1
        return [waited, other.trays[tray][2]]

    def behind(self, trays, minutes, frost):
        air = self.air(trays, False)
        for passed in range(minutes):
            frost = self.step(frost, air)
        return frost

    def hardens(self, trays, frost):
        if trays > self.told[0] or frost > 600:
            return [-22]
        air, minutes = self.air(trays, False), 0
        while frost < self.told[6]:
            if minutes == 2000:
                return [-33]
            frost = self.step(frost, air)
            minutes += 1
        return [minutes]

    def needs(self, trays, frost):
        if trays > self.told[0] or frost > 600:
            return [-22]
        for pace in range(1, 61):
            if self.behind(trays, pace * self.told[0], frost) >= self.told[6]:
                return [pace]
        return [-33]

    def most(self, pace, frost):
        if not 1 <= pace <= 60 or frost > 600:
            return [-22]
        does = [
            trays for trays in range(1, self.told[0] + 1)
            if self.behind(trays, pace * self.told[0], frost) >= self.told[6]
        ]
        return [max(does)] if does else [-33]

    def steady(self, trays, minutes, frost):
        if trays > self.told[0] or frost > 600 or minutes > 2000:
            return [-22]
        return [self.behind(trays, minutes, frost)]

    def airs(self, trays):
        if trays > self.told[0]:
            return [-22]
        riding = sum(tray[1] is not None for tray in self.trays)
        return [self.air(trays, False), self.air(trays, True), self.air(riding, self.open_for > 0)]

    def soft(self):
        numbers, litres = [], 0
        for number, minute, frost, flavour, held in self.log:
            if frost < self.told[6]:
                numbers.append(number)
                litres += held
        return [len(numbers), litres, *numbers]

    def out(self):
        return [len(self.log)] + [told for row in self.log for told in row[:3]]

    def of(self, flavour):
        if flavour > 9:
            return [-22]
        told = [0, 0]
        for number, minute, frost, other, litres in self.log:
            if other == flavour:
                told[0] += litres
                told[1] += litres if frost < self.told[6] else 0
        return told

    def look(self, number):
        if number >= len(self.trays):
            return [-2]
        minute, place, frost, flavour, litres = self.trays[number]
        return [flavour, litres, frost, minute, int(place is not None)]

    def chain(self):
        told = [0] * (self.told[0] + 1)
        for number, tray in enumerate(self.trays):
            if tray[1] is not None:
                told[0] += 1
                told[tray[1]] = number + 1
        return told

    def mean(self):
        frosts = sorted(row[2] for row in self.log)
        if not frosts:
            return [-6]
        mean = 0
        while (mean + 1) * len(frosts) <= sum(frosts):
            mean += 1
        return [mean, frosts[0], frosts[-1]]

    def sums(self):
        riding = [tray for tray in self.trays if tray[1] is not None]
        return [0, len(riding) + len(self.log), len(riding), len(self.log), self.soft()[0]]

    def state(self):
        return [self.now, self.pace, self.told[0], self.open_for, self.told[6]]

    def answer(self, call):
        if call[0] != "begin" and self.told is None:
            return [-11]
        name = "airs" if call[0] == "air" else call[0]
        return getattr(self, name)(*call[1:])


def many_begins(seed):
    """A line that may make calls before it begins, and begins again, also where that's refused."""
    rng = random.Random(seed)
    calls = [random_call(rng) for made in range(rng.randint(0, 3))]
    for begun in range(4):
        setup = list(random_begin(rng))
        if rng.random() < 0.4:
            setup[rng.randint(1, 7)] = rng.choice((0, 601, HUGE))
        calls.append(tuple(setup))
        calls += [random_call(rng) for made in range(30)]
    return calls


def crowded(seed):
    """A line that puts a tray whenever it can, so that the chain is full and 100 are reached."""
    rng = random.Random(seed)
    setup = list(random_begin(rng))
    setup[2] = rng.randint(1, 2)
    calls = [tuple(setup)]
    for made in range(120):
        calls += [("put", made % 10, 1 + made, rng.randint(0, 600)), ("minutes", rng.randint(1, 3))]
        if made % 12 == 0:
            calls.append(random_call(rng))
        if made % 5 == 0:
            calls.append(rng.choice(questions(made)))
    return calls + rng.sample(questions(100), 100)


class AgainstTheModel(unittest.TestCase):
    def check(self, seed, calls):
        model = Model()
        for index, (call, part) in enumerate(zip(calls, ask(*calls))):
            expected = model.answer(call)
            if part != expected:
                self.fail(f"seed {seed}: {call} answers {part}, not {expected}, behind {calls[:index]}")

    def test_lines_of_all_calls(self):
        for seed in range(150):
            self.check(seed, random_line(seed, 100))

    def test_lines_with_many_begins(self):
        for seed in range(80):
            self.check(seed, many_begins(seed))

    def test_crowded_lines(self):
        for seed in range(60):
            self.check(seed, crowded(seed))


if __name__ == "__main__":
    unittest.main()
