"""The hardening spiral and the calls that are made on it, as one list of whole numbers."""

NONE_SUCH = -2
NONE_CAME_OUT = -6
NOT_BEGUN = -11
THERE_IS_ONE = -16
IS_OUT = -17
OUT_OF_RANGE = -22
TOO_MANY = -28
NOT_SO = -33

BEGIN = 0

# How many whole numbers stand behind each call's own number.
WIDTHS = (7, 3, 1, 1, 1, 1, 1, 2, 2, 2, 3, 1, 0, 0, 1, 1, 0, 0, 0, 0)

# The least and the greatest that begin lets, in the order of its numbers.
BEGIN_RANGES = ((1, 12), (1, 60), (1, 600), (0, 50), (0, 200), (1, 500), (1, 500))

GREATEST_FLAVOUR = 9
GREATEST_LITRES = 1000
GREATEST_FROST = 600
GREATEST_PACE = 60
MOST_MINUTES = 500
MOST_TRAYS = 100
LONGEST_IN_STEADY_AIR = 2000


class Tray:
    """A tray that was put on the chain; out_minute is None as long as it's there."""

    def __init__(self, number, flavour, litres, frost, put_minute):
        self.number = number
        self.flavour = flavour
        self.litres = litres
        self.frost = frost
        self.put_minute = put_minute
        self.out_minute = None


class Spiral:
    """A spiral that has begun; slots holds of each place the tray's number, or None."""

    def __init__(self, places, pace, base, warm, opened, slow, wanted):
        self.places = places
        self.pace = pace
        self.base = base
        self.warm = warm
        self.opened = opened
        self.slow = slow
        self.wanted = wanted
        self.minute = 0
        self.door_left = 0
        self.trays = []
        self.slots = [None] * places


def twin_tray(tray):
    """A tray of its own that is as this one."""
    other = Tray(tray.number, tray.flavour, tray.litres, tray.frost, tray.put_minute)
    other.out_minute = tray.out_minute
    return other


def twin_spiral(spiral):
    """A spiral of its own that is as this one, to see what comes without changing this one."""
    other = Spiral(
        spiral.places, spiral.pace, spiral.base, spiral.warm, spiral.opened, spiral.slow, spiral.wanted
    )
    other.minute = spiral.minute
    other.door_left = spiral.door_left
    other.trays = [twin_tray(tray) for tray in spiral.trays]
    other.slots = list(spiral.slots)
    return other


def is_within(number, least, greatest):
    """Whether the number is from least to greatest."""
    return least <= number and number <= greatest


def air_frost(spiral, trays, door_is_open):
    """The air's frost with so many trays on the chain."""
    frost = spiral.base - spiral.warm * trays
    if door_is_open:
        frost = frost - spiral.opened
    return max(0, frost)


def changed_frost(frost, air, slow):
    """The frost that a tray with this frost has a minute later."""
    if frost < air:
        return min(air, frost + 1 + (air - frost) // slow)
    if frost > air:
        return frost - 1
    return frost


def steady_frost(spiral, trays, frost, minutes):
    """The frost behind so many minutes in steady air with so many trays."""
    air = air_frost(spiral, trays, False)
    for passed in range(minutes):
        frost = changed_frost(frost, air, spiral.slow)
    return frost


def trays_on_chain(spiral):
    """The trays on the chain, from the first place on."""
    return [spiral.trays[number] for number in spiral.slots if number is not None]


def trays_out(spiral):
    """The trays that came out, as they came: the first in is the first out, so by their numbers."""
    return [tray for tray in spiral.trays if tray.out_minute is not None]


def soft_trays(spiral, trays):
    """Those of these trays that are soft."""
    return [tray for tray in trays if tray.frost < spiral.wanted]


def litres_together(trays):
    """How many litres there are in these trays."""
    return sum([tray.litres for tray in trays])


def air_frost_now(spiral):
    """The air's frost with the trays that are on the chain and the door as it is."""
    return air_frost(spiral, len(trays_on_chain(spiral)), spiral.door_left > 0)


def move_chain(spiral):
    """Move all one place further; give what came out, as a list of one tray or none."""
    number = spiral.slots[-1]
    spiral.slots = [None] + spiral.slots[:-1]
    if number is None:
        return []
    tray = spiral.trays[number]
    tray.out_minute = spiral.minute
    return [tray]


def pass_minute(spiral):
    """Let a minute go by; give the trays that came out in it."""
    air = air_frost_now(spiral)
    for tray in trays_on_chain(spiral):
        tray.frost = changed_frost(tray.frost, air, spiral.slow)
    spiral.minute = spiral.minute + 1
    spiral.door_left = max(0, spiral.door_left - 1)
    if spiral.minute % spiral.pace == 0:
        return move_chain(spiral)
    return []


def pass_minutes(spiral, minutes):
    """Let so many minutes go by; give the trays that came out in these, as they came."""
    came_out = []
    for passed in range(minutes):
        came_out.extend(pass_minute(spiral))
    return came_out


def begun_spiral(numbers):
    """The new spiral that begin asks for, or None if its numbers are out of range."""
    for number, bounds in zip(numbers, BEGIN_RANGES):
        if not is_within(number, bounds[0], bounds[1]):
            return None
    return Spiral(numbers[0], numbers[1], numbers[2], numbers[3], numbers[4], numbers[5], numbers[6])


def answer_put(spiral, flavour, litres, frost):
    """Put a tray at the first place: its number."""
    if flavour > GREATEST_FLAVOUR or not is_within(litres, 1, GREATEST_LITRES) or frost > GREATEST_FROST:
        return [OUT_OF_RANGE]
    if spiral.slots[0] is not None:
        return [THERE_IS_ONE]
    number = len(spiral.trays)
    if number == MOST_TRAYS:
        return [TOO_MANY]
    spiral.trays.append(Tray(number, flavour, litres, frost, spiral.minute))
    spiral.slots[0] = number
    return [number]


def answer_minutes(spiral, minutes):
    """Let minutes go by: which minute it is, how many trays came out."""
    if not is_within(minutes, 1, MOST_MINUTES):
        return [OUT_OF_RANGE]
    came_out = pass_minutes(spiral, minutes)
    return [spiral.minute, len(came_out)]


def answer_every(spiral, pace):
    """Set the minutes from place to place: how many they were."""
    if not is_within(pace, 1, GREATEST_PACE):
        return [OUT_OF_RANGE]
    before = spiral.pace
    spiral.pace = pace
    return [before]


def answer_door(spiral, minutes):
    """Set for how many minutes the door is open: how many it had."""
    if minutes > MOST_MINUTES:
        return [OUT_OF_RANGE]
    before = spiral.door_left
    spiral.door_left = minutes
    return [before]


def answer_ahead(spiral, minutes):
    """How many trays will come out, how many of them soft, how many are on the chain then."""
    if not is_within(minutes, 1, MOST_MINUTES):
        return [OUT_OF_RANGE]
    later = twin_spiral(spiral)
    came_out = pass_minutes(later, minutes)
    return [len(came_out), len(soft_trays(later, came_out)), len(trays_on_chain(later))]


def answer_ends(spiral, number):
    """In how many minutes the tray will come out, and with which frost."""
    if number >= len(spiral.trays):
        return [NONE_SUCH]
    if spiral.trays[number].out_minute is not None:
        return [IS_OUT]
    moves = spiral.places - spiral.slots.index(number)
    # The chain moves at multiples of the pace, so part of the first move's wait may be over.
    minutes = moves * spiral.pace - spiral.minute % spiral.pace
    later = twin_spiral(spiral)
    pass_minutes(later, minutes)
    return [minutes, later.trays[number].frost]


def is_steady_air_asked(spiral, trays, frost):
    """Whether so many trays, and one with that frost, can be asked about."""
    return trays <= spiral.places and frost <= GREATEST_FROST


def answer_hardens(spiral, trays, frost):
    """In how many minutes one with that frost is hard in steady air."""
    if not is_steady_air_asked(spiral, trays, frost):
        return [OUT_OF_RANGE]
    air = air_frost(spiral, trays, False)
    for passed in range(LONGEST_IN_STEADY_AIR + 1):
        if frost >= spiral.wanted:
            return [passed]
        frost = changed_frost(frost, air, spiral.slow)
    return [NOT_SO]


def answer_needs(spiral, trays, frost):
    """The fewest minutes from place to place with which one is hard behind all places."""
    if not is_steady_air_asked(spiral, trays, frost):
        return [OUT_OF_RANGE]
    for pace in range(1, GREATEST_PACE + 1):
        # A minute more at each place adds as many minutes as there are places.
        frost = steady_frost(spiral, trays, frost, spiral.places)
        if frost >= spiral.wanted:
            return [pace]
    return [NOT_SO]


def answer_most(spiral, pace, frost):
    """The most trays with which one is hard behind all places."""
    if not is_within(pace, 1, GREATEST_PACE) or frost > GREATEST_FROST:
        return [OUT_OF_RANGE]
    for trays in range(spiral.places, 0, -1):
        if steady_frost(spiral, trays, frost, pace * spiral.places) >= spiral.wanted:
            return [trays]
    return [NOT_SO]


def answer_steady(spiral, trays, minutes, frost):
    """The frost behind so many minutes in steady air."""
    if not is_steady_air_asked(spiral, trays, frost) or minutes > LONGEST_IN_STEADY_AIR:
        return [OUT_OF_RANGE]
    return [steady_frost(spiral, trays, frost, minutes)]


def answer_air(spiral, trays):
    """The air's frost with so many trays, the door shut and open, and the air's frost now."""
    if trays > spiral.places:
        return [OUT_OF_RANGE]
    return [air_frost(spiral, trays, False), air_frost(spiral, trays, True), air_frost_now(spiral)]


def answer_soft(spiral):
    """How many came out soft, their litres together, their numbers."""
    soft = soft_trays(spiral, trays_out(spiral))
    return [len(soft), litres_together(soft)] + [tray.number for tray in soft]


def answer_out(spiral):
    """How many came out; of each its number, the minute, its frost."""
    came_out = trays_out(spiral)
    answer = [len(came_out)]
    for tray in came_out:
        answer.extend([tray.number, tray.out_minute, tray.frost])
    return answer


def answer_of(spiral, flavour):
    """How many litres of the flavour came out, how many of these litres soft."""
    if flavour > GREATEST_FLAVOUR:
        return [OUT_OF_RANGE]
    came_out = [tray for tray in trays_out(spiral) if tray.flavour == flavour]
    return [litres_together(came_out), litres_together(soft_trays(spiral, came_out))]


def answer_look(spiral, number):
    """The tray's flavour, litres, frost, the minute it was put, 1 if it's on the chain."""
    if number >= len(spiral.trays):
        return [NONE_SUCH]
    tray = spiral.trays[number]
    return [tray.flavour, tray.litres, tray.frost, tray.put_minute, 1 if tray.out_minute is None else 0]


def answer_chain(spiral):
    """How many trays are on the chain; of each place the tray's number and one, or 0."""
    return [len(trays_on_chain(spiral))] + [0 if number is None else number + 1 for number in spiral.slots]


def answer_mean(spiral):
    """The mean, the least and the greatest of the frosts of those that came out."""
    frosts = [tray.frost for tray in trays_out(spiral)]
    if len(frosts) == 0:
        return [NONE_CAME_OUT]
    return [sum(frosts) // len(frosts), min(frosts), max(frosts)]


def answer_sums(spiral):
    """0; how many trays there ever were, are on the chain, came out, came out soft."""
    came_out = trays_out(spiral)
    return [0, len(spiral.trays), len(trays_on_chain(spiral)), len(came_out), len(soft_trays(spiral, came_out))]


def answer_state(spiral):
    """The minute, the pace, the places, how long the door is open yet, the frost wanted."""
    return [spiral.minute, spiral.pace, spiral.places, spiral.door_left, spiral.wanted]


# By the calls' numbers; begin is not among them, since it needs no spiral and makes one.
ANSWERERS = (
    None, answer_put, answer_minutes, answer_every, answer_door, answer_ahead, answer_ends,
    answer_hardens, answer_needs, answer_most, answer_steady, answer_air, answer_soft, answer_out,
    answer_of, answer_look, answer_chain, answer_mean, answer_sums, answer_state,
)


def answer_of_call(spiral, call, numbers):
    """The answer to a call on a spiral that has begun."""
    answerer = ANSWERERS[call]
    if len(numbers) == 0:
        return answerer(spiral)
    if len(numbers) == 1:
        return answerer(spiral, numbers[0])
    if len(numbers) == 2:
        return answerer(spiral, numbers[0], numbers[1])
    return answerer(spiral, numbers[0], numbers[1], numbers[2])


def answers(calls):
    """Make the calls on one new object: for each, how many numbers are answered, then these."""
    spiral = None
    answered = []
    at = 0
    while at < len(calls):
        call = calls[at]
        behind = at + 1 + WIDTHS[call]
        numbers = calls[at + 1:behind]
        at = behind
        answer = [0]
        if call == BEGIN:
            fresh = begun_spiral(numbers)
            if fresh is None:
                answer = [OUT_OF_RANGE]
            else:
                spiral = fresh
        elif spiral is None:
            answer = [NOT_BEGUN]
        else:
            answer = answer_of_call(spiral, call, numbers)
        answered.append(len(answer))
        answered.extend(answer)
    return answered
