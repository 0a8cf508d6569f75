"""The hardening spiral and the calls that are made on it, as one list of whole numbers."""

NONE_SUCH = -2
NOT_BEGUN = -11
THERE_IS_ONE = -16
IS_OUT = -17
OUT_OF_RANGE = -22
TOO_MANY = -28
NOT_SO = -33

BEGIN = 0
PUT = 1
MINUTES = 2
EVERY = 3
DOOR = 4
AHEAD = 5
ENDS = 6
HARDENS = 7
NEEDS = 8
MOST = 9

# How many whole numbers stand behind each call's own number. It tells all twenty,
# so that a list can be taken apart whichever calls are in it.
WIDTHS = (7, 3, 1, 1, 1, 1, 1, 2, 2, 2, 3, 1, 0, 0, 1, 1, 0, 0, 0, 0)

# The least and the greatest that begin lets, in the order of its numbers.
BEGIN_RANGES = ((1, 12), (1, 60), (1, 600), (0, 50), (0, 200), (1, 500), (1, 500))

GREATEST_FLAVOUR = 9
GREATEST_LITRES = 1000
GREATEST_FROST = 600
GREATEST_PACE = 60
MOST_MINUTES = 500
MOST_TRAYS = 100
LONGEST_HARDENING = 2000


class Tray:
    """A tray that was put on the chain; out_minute is None as long as it's there."""

    def __init__(self, flavour, litres, frost, put_minute):
        self.flavour = flavour
        self.litres = litres
        self.frost = frost
        self.put_minute = put_minute
        self.out_minute = None


class Spiral:
    """A spiral that has begun; slots holds of each place the tray's number, or None."""

    def __init__(self, places, pace, base, warm, opened, slow, wanted):
        self.places = places
        self.pace = pace
        self.base = base
        self.warm = warm
        self.opened = opened
        self.slow = slow
        self.wanted = wanted
        self.minute = 0
        self.door_left = 0
        self.trays = []
        self.slots = [None] * places


def twin_tray(tray):
    """A tray of its own that is as this one."""
    other = Tray(tray.flavour, tray.litres, tray.frost, tray.put_minute)
    other.out_minute = tray.out_minute
    return other


def twin_spiral(spiral):
    """A spiral of its own that is as this one, to see what comes without changing this one."""
    other = Spiral(
        spiral.places, spiral.pace, spiral.base, spiral.warm, spiral.opened, spiral.slow, spiral.wanted
    )
    other.minute = spiral.minute
    other.door_left = spiral.door_left
    other.trays = [twin_tray(tray) for tray in spiral.trays]
    other.slots = list(spiral.slots)
    return other


def is_within(number, least, greatest):
    """Whether the number is from least to greatest."""
    return least <= number and number <= greatest


def air_frost(spiral, trays, door_is_open):
    """The air's frost with so many trays on the chain."""
    frost = spiral.base - spiral.warm * trays
    if door_is_open:
        frost = frost - spiral.opened
    return max(0, frost)


def changed_frost(frost, air, slow):
    """The frost that a tray with this frost has a minute later."""
    if frost < air:
        return min(air, frost + 1 + (air - frost) // slow)
    if frost > air:
        return frost - 1
    return frost


def steady_frost(spiral, trays, frost, minutes):
    """The frost behind so many minutes in steady air with so many trays."""
    air = air_frost(spiral, trays, False)
    for passed in range(minutes):
        frost = changed_frost(frost, air, spiral.slow)
    return frost


def trays_on_chain(spiral):
    """The trays on the chain, from the first place on."""
    return [spiral.trays[number] for number in spiral.slots if number is not None]


def soft_trays(spiral, trays):
    """Those of these trays that are soft."""
    return [tray for tray in trays if tray.frost < spiral.wanted]


def move_chain(spiral):
    """Move all one place further; give what came out, as a list of one tray or none."""
    number = spiral.slots[-1]
    spiral.slots = [None] + spiral.slots[:-1]
    if number is None:
        return []
    tray = spiral.trays[number]
    tray.out_minute = spiral.minute
    return [tray]


def pass_minute(spiral):
    """Let a minute go by; give the trays that came out in it."""
    carried = trays_on_chain(spiral)
    air = air_frost(spiral, len(carried), spiral.door_left > 0)
    for tray in carried:
        tray.frost = changed_frost(tray.frost, air, spiral.slow)
    spiral.minute = spiral.minute + 1
    spiral.door_left = max(0, spiral.door_left - 1)
    if spiral.minute % spiral.pace == 0:
        return move_chain(spiral)
    return []


def pass_minutes(spiral, minutes):
    """Let so many minutes go by; give the trays that came out in these, as they came."""
    came_out = []
    for passed in range(minutes):
        came_out.extend(pass_minute(spiral))
    return came_out


def begun_spiral(numbers):
    """The new spiral that begin asks for, or None if its numbers are out of range."""
    for number, bounds in zip(numbers, BEGIN_RANGES):
        if not is_within(number, bounds[0], bounds[1]):
            return None
    return Spiral(numbers[0], numbers[1], numbers[2], numbers[3], numbers[4], numbers[5], numbers[6])


def answer_put(spiral, flavour, litres, frost):
    """Put a tray at the first place: its number."""
    if flavour > GREATEST_FLAVOUR or not is_within(litres, 1, GREATEST_LITRES) or frost > GREATEST_FROST:
        return [OUT_OF_RANGE]
    if spiral.slots[0] is not None:
        return [THERE_IS_ONE]
    number = len(spiral.trays)
    if number == MOST_TRAYS:
        return [TOO_MANY]
    spiral.trays.append(Tray(flavour, litres, frost, spiral.minute))
    spiral.slots[0] = number
    return [number]


def answer_minutes(spiral, minutes):
    """Let minutes go by: which minute it is, how many trays came out."""
    if not is_within(minutes, 1, MOST_MINUTES):
        return [OUT_OF_RANGE]
    came_out = pass_minutes(spiral, minutes)
    return [spiral.minute, len(came_out)]


def answer_every(spiral, pace):
    """Set the minutes from place to place: how many they were."""
    if not is_within(pace, 1, GREATEST_PACE):
        return [OUT_OF_RANGE]
    before = spiral.pace
    spiral.pace = pace
    return [before]


def answer_door(spiral, minutes):
    """Set for how many minutes the door is open: how many it had."""
    if minutes > MOST_MINUTES:
        return [OUT_OF_RANGE]
    before = spiral.door_left
    spiral.door_left = minutes
    return [before]


def answer_ahead(spiral, minutes):
    """How many trays will come out, how many of them soft, how many are on the chain then."""
    if not is_within(minutes, 1, MOST_MINUTES):
        return [OUT_OF_RANGE]
    later = twin_spiral(spiral)
    came_out = pass_minutes(later, minutes)
    return [len(came_out), len(soft_trays(later, came_out)), len(trays_on_chain(later))]


def answer_ends(spiral, number):
    """In how many minutes the tray will come out, and with which frost."""
    if number >= len(spiral.trays):
        return [NONE_SUCH]
    if spiral.trays[number].out_minute is not None:
        return [IS_OUT]
    moves = spiral.places - spiral.slots.index(number)
    # The chain moves at multiples of the pace, so part of the first move's wait may be over.
    minutes = moves * spiral.pace - spiral.minute % spiral.pace
    later = twin_spiral(spiral)
    pass_minutes(later, minutes)
    return [minutes, later.trays[number].frost]


def is_steady_air_asked(spiral, trays, frost):
    """Whether so many trays, and one with that frost, can be asked about."""
    return trays <= spiral.places and frost <= GREATEST_FROST


def answer_hardens(spiral, trays, frost):
    """In how many minutes one with that frost is hard in steady air."""
    if not is_steady_air_asked(spiral, trays, frost):
        return [OUT_OF_RANGE]
    air = air_frost(spiral, trays, False)
    for passed in range(LONGEST_HARDENING + 1):
        if frost >= spiral.wanted:
            return [passed]
        frost = changed_frost(frost, air, spiral.slow)
    return [NOT_SO]


def answer_needs(spiral, trays, frost):
    """The fewest minutes from place to place with which one is hard behind all places."""
    if not is_steady_air_asked(spiral, trays, frost):
        return [OUT_OF_RANGE]
    for pace in range(1, GREATEST_PACE + 1):
        # A minute more at each place adds as many minutes as there are places.
        frost = steady_frost(spiral, trays, frost, spiral.places)
        if frost >= spiral.wanted:
            return [pace]
    return [NOT_SO]


def answer_most(spiral, pace, frost):
    """The most trays with which one is hard behind all places."""
    if not is_within(pace, 1, GREATEST_PACE) or frost > GREATEST_FROST:
        return [OUT_OF_RANGE]
    for trays in range(spiral.places, 0, -1):
        if steady_frost(spiral, trays, frost, pace * spiral.places) >= spiral.wanted:
            return [trays]
    return [NOT_SO]


def answer_of_change(spiral, call, numbers):
    """The answer to a call that changes the spiral."""
    if call == PUT:
        return answer_put(spiral, numbers[0], numbers[1], numbers[2])
    if call == MINUTES:
        return answer_minutes(spiral, numbers[0])
    if call == EVERY:
        return answer_every(spiral, numbers[0])
    return answer_door(spiral, numbers[0])


def answer_of_question(spiral, call, numbers):
    """The answer to a call that leaves the spiral as it is."""
    if call == AHEAD:
        return answer_ahead(spiral, numbers[0])
    if call == ENDS:
        return answer_ends(spiral, numbers[0])
    if call == HARDENS:
        return answer_hardens(spiral, numbers[0], numbers[1])
    if call == NEEDS:
        return answer_needs(spiral, numbers[0], numbers[1])
    if call == MOST:
        return answer_most(spiral, numbers[0], numbers[1])
    raise NotImplementedError("this call is not written yet")


def answers(calls):
    """Make the calls on one new object: for each, how many numbers are answered, then these."""
    spiral = None
    answered = []
    at = 0
    while at < len(calls):
        call = calls[at]
        behind = at + 1 + WIDTHS[call]
        numbers = calls[at + 1:behind]
        at = behind
        answer = [0]
        if call == BEGIN:
            fresh = begun_spiral(numbers)
            if fresh is None:
                answer = [OUT_OF_RANGE]
            else:
                spiral = fresh
        elif spiral is None:
            answer = [NOT_BEGUN]
        elif call <= DOOR:
            answer = answer_of_change(spiral, call, numbers)
        else:
            answer = answer_of_question(spiral, call, numbers)
        answered.append(len(answer))
        answered.extend(answer)
    return answered
