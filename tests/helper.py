"""Writes lines of calls and reads their answers, for all test files."""

import random

from coldspiral.spiral import answers

HUGE = 4294967295

CALLS = {
    "begin": (0, 7),
    "put": (1, 3),
    "minutes": (2, 1),
    "every": (3, 1),
    "door": (4, 1),
    "ahead": (5, 1),
    "ends": (6, 1),
    "hardens": (7, 2),
    "needs": (8, 2),
    "most": (9, 2),
    "steady": (10, 3),
    "air": (11, 1),
    "soft": (12, 0),
    "out": (13, 0),
    "of": (14, 1),
    "look": (15, 1),
    "chain": (16, 0),
    "mean": (17, 0),
    "sums": (18, 0),
    "state": (19, 0),
}

# The calls that may change the object; all others only ask.
CHANGING = ("begin", "put", "minutes", "every", "door")

# How many numbers each call answers when it isn't refused, but for soft, out and chain.
ANSWERED = {
    "begin": 1, "put": 1, "minutes": 2, "every": 1, "door": 1,
    "ahead": 3, "ends": 2, "hardens": 1, "needs": 1, "most": 1,
    "steady": 1, "air": 3, "of": 2, "look": 5, "mean": 3, "sums": 5, "state": 5,
}


def told_count(name, first, places):
    """How many numbers stand in an answer that begins with this number, on so many places."""
    if first < 0:
        return 1
    if name == "soft":
        return 2 + first
    if name == "out":
        return 1 + 3 * first
    if name == "chain":
        return 1 + places
    return ANSWERED[name]


def line(calls):
    """The one list of whole numbers for calls such as ("put", 1, 2, 3)."""
    numbers = []
    for call in calls:
        number, width = CALLS[call[0]]
        if len(call) - 1 != width:
            raise ValueError(f"{call[0]} takes {width} numbers")
        numbers.append(number)
        numbers.extend(call[1:])
    return numbers


def ask(*calls):
    """The answers to the calls on a new object, a list for each call."""
    if not 1 <= len(calls) <= 400:
        raise ValueError(f"{len(calls)} calls are no line")
    given = answers(line(calls))
    parts = []
    at = 0
    for call in calls:
        count = given[at]
        part = given[at + 1:at + 1 + count]
        if len(part) != count or count < 1:
            raise AssertionError(f"{call} is answered by {part}, told as {count} numbers")
        parts.append(part)
        at += 1 + count
    if at != len(given):
        raise AssertionError(f"{given[at:]} stands behind the last answer")
    return parts


def last(*calls):
    """The answer to the last of the calls."""
    return ask(*calls)[-1]


def begin(places=3, pace=2, base=200, warm=10, opened=50, slow=10, wanted=180):
    """A begin, of which a test names only what it is about."""
    return ("begin", places, pace, base, warm, opened, slow, wanted)


def questions(tray_count):
    """Calls that ask for all that can be seen of an object with so many trays, and change nothing."""
    asked = [("soft",), ("out",), ("chain",), ("mean",), ("sums",), ("state",), ("air", 0), ("air", 1)]
    asked += [("of", flavour) for flavour in range(10)]
    asked += [("look", number) for number in range(tray_count + 1)]
    asked += [("ends", number) for number in range(tray_count + 1)]
    asked += [("ahead", n) for n in (1, 7, 60, 500)]
    return asked + [("hardens", 1, 0), ("needs", 1, 0), ("most", 7, 0), ("steady", 1, 9, 0)]


def future(tray_count):
    """Calls that tell apart any two objects that are different or would go on in different ways."""
    asked = questions(tray_count)
    asked += [("put", 0, 1, 0)] + [("minutes", 1)] * 20
    asked += [("every", 3), ("door", 0)] + questions(tray_count + 1)
    return asked + [("minutes", 100)] * 9 + [("put", 0, 1, 0)] + questions(tray_count + 2)


def random_begin(rng):
    """A begin that is let, with small numbers often."""
    return begin(
        rng.randint(1, rng.choice((1, 3, 12))),
        rng.randint(1, rng.choice((1, 4, 60))),
        rng.randint(1, rng.choice((20, 200, 600))),
        rng.randint(0, rng.choice((0, 5, 50))),
        rng.randint(0, rng.choice((0, 20, 200))),
        rng.randint(1, rng.choice((1, 10, 500))),
        rng.randint(1, rng.choice((10, 150, 500))),
    )


def random_call(rng):
    """One of the calls behind begin, at times with numbers that aren't let."""
    name = rng.choice(("put", "put", "put", "minutes", "minutes", "minutes") + tuple(CALLS)[1:])
    frost = rng.choice((0, rng.randint(0, 50), rng.randint(0, 600), 600, 601))
    count = rng.choice((0, 1, rng.randint(0, 12), 13))
    pace = rng.choice((0, 1, rng.randint(1, 6), rng.randint(1, 60), 60, 61))
    few = rng.choice((0, 1, rng.randint(1, 9), rng.randint(1, 9), rng.randint(1, 200), 500, 501, HUGE))
    if name == "put":
        return (name, rng.choice((0, 1, rng.randint(0, 10))), rng.choice((0, 1, 500, 1000, 1001)), frost)
    if name in ("minutes", "door", "ahead"):
        return (name, few)
    if name == "every":
        return (name, pace)
    if name in ("ends", "look"):
        return (name, rng.choice((0, rng.randint(0, 20), HUGE)))
    if name == "most":
        return (name, pace, frost)
    if name == "steady":
        return (name, count, rng.choice((few, 2000, 2001)), frost)
    if name == "air":
        return (name, rng.choice((count, HUGE)))
    if name == "of":
        return (name, rng.choice((0, 1, rng.randint(0, 10), HUGE)))
    if CALLS[name][1] == 0:
        return (name,)
    return (name, count, frost)


def random_line(seed, length):
    """A line that begins and then makes calls, the same for the same seed."""
    rng = random.Random(seed)
    return [random_begin(rng)] + [random_call(rng) for made in range(length - 1)]
