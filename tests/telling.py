"""How the tests tell histories, and slow answers to set beside the program's.

The slow answers go through every order there is, or through every place that
is told, and ask of each what the document asks of it, so they share no step
with the program.
"""

from itertools import permutations

NEVER = 4294967295
GREATEST = 4294967295
GREATEST_ANSWER = 18446744073709551615
BOX, ROW, SET, SUM = 0, 1, 2, 3
SORTS = {BOX: 3, ROW: 2, SET: 3, SUM: 2}


def call(begin, end, what, a=0, b=0, answered=0):
    return (begin, end, what, a, b, answered)


def history(*calls):
    return [number for told in calls for number in told]


def one_by_one(*calls):
    """A history of calls (what, a, b, answered), each begun when the one before had ended."""
    return history(*[(2 * at, 2 * at + 1) + told for at, told in enumerate(calls)])


def at_once(*calls):
    """A history of calls (what, a, b, answered) that all began and ended together."""
    return history(*[(0, 1) + told for told in calls])


def blocks(*sizes):
    """Calls that read 0: so many at once, then so many, and on. 1 + the sum of (2^size - 1) places."""
    return [call(2 * at, 2 * at + 1, 0) for at, size in enumerate(sizes) for turn in range(size)]


class Thing:
    """A thing as the document tells it, changed in place."""

    def __init__(self, kind):
        self.kind = kind
        self.number = 0
        self.row = []
        self.members = set()

    def answer(self, what, a, b):
        return {BOX: self.box, ROW: self.queue, SET: self.group, SUM: self.total}[self.kind](what, a, b)

    def box(self, what, a, b):
        before = self.number
        if what == 0:
            return before
        if what == 1:
            self.number = a
            return 0
        self.number = b if before == a else before
        return int(before == a)

    def queue(self, what, a, b):
        if what == 0:
            self.row.append(a)
            return 0
        return self.row.pop(0) + 1 if self.row else 0

    def group(self, what, a, b):
        was = a in self.members
        if what == 0:
            self.members |= {a}
            return int(not was)
        if what == 1:
            self.members -= {a}
        return int(was)

    def total(self, what, a, b):
        before = self.number
        if what == 0:
            self.number = (before + a) & 0xFFFFFFFF
        return before

    def held(self):
        """The numbers that it holds, as they stand in a place."""
        return {BOX: [self.number], ROW: list(self.row), SET: sorted(self.members), SUM: [self.number]}[self.kind]


def holding(kind, held):
    """A thing that holds these numbers."""
    thing = Thing(kind)
    thing.row, thing.members = list(held), set(held)
    if kind in (BOX, SUM):
        thing.number = held[0]
    return thing


def in_numbers(*places):
    """Places told as (done, numbers that the thing holds), in numbers."""
    return [number for done, held in places for number in [done, len(held)] + list(held)]


def done_one_by_one(kind, calls, numbers):
    """What the thing holds behind these calls, or None if one that ended is answered otherwise."""
    thing = Thing(kind)
    for number in numbers:
        begin, end, what, a, b, answered = calls[number]
        if thing.answer(what, a, b) != answered and end != NEVER:
            return None
    return thing.held()


def ended(calls):
    return {number for number in range(len(calls)) if calls[number][1] != NEVER}


def in_time(calls, numbers):
    """None stands behind one that began at a later moment than that at which it ended itself."""
    return not any(calls[later][1] < calls[earlier][0]
                   for at, later in enumerate(numbers) for earlier in numbers[:at])


def explains(kind, calls, numbers):
    return (ended(calls) <= set(numbers) and in_time(calls, numbers)
            and done_one_by_one(kind, calls, numbers) is not None)


def leaves_none_out(calls, numbers):
    """Each that ended before one of these began is one of these."""
    return all(other in numbers for number in numbers for other in range(len(calls))
               if calls[other][1] < calls[number][0])


def every_order(calls):
    return [numbers for size in range(len(calls) + 1) for numbers in permutations(range(len(calls)), size)]


def slow_places(kind, calls):
    """The places that are come to, in numbers.

    Every order stands behind all the shorter ones and those of its length that begin with lesser calls: so the places
    come up just as they do when each is gone on from in turn, with calls 0 and on.
    """
    places = []
    for numbers in every_order(calls):
        if in_time(calls, numbers) and leaves_none_out(calls, numbers):
            held = done_one_by_one(kind, calls, numbers)
            if held is not None:
                place = [sum(2 ** number for number in numbers), len(held)] + held
                if place not in places:
                    places.append(place)
    return places


def slow_proof(kind, calls):
    """What proof must give back for a right history."""
    places = slow_places(kind, calls)
    if len(places) > 256:
        return [-28]
    if any(explains(kind, calls, numbers) for numbers in every_order(calls)):
        return [-33]
    return [len(places)] + [number for place in places for number in place]


def slow_follows(kind, calls, numbers):
    """What follows must give back for a right history."""
    if len(set(numbers)) < len(numbers) or not set(numbers) <= set(range(len(calls))):
        return [0]
    return [int(explains(kind, calls, numbers))]


def slow_order(kind, calls):
    """What order must give back for a right history."""
    if len(slow_places(kind, calls)) > 256:
        return [-28]
    orders = [numbers for numbers in every_order(calls) if explains(kind, calls, numbers)]
    if not orders:
        return [-33]
    told = ()
    while not ended(calls) <= set(told):
        longer = [numbers for numbers in orders if numbers[:len(told)] == told and len(numbers) > len(told)]
        told += (min(numbers[len(told)] for numbers in longer),)
    return [len(told)] + list(told)


def seen_by(calls, moment):
    """What had been seen by a moment."""
    return [(begin, end if end <= moment else NEVER, what, a, b, answered)
            for begin, end, what, a, b, answered in calls if begin <= moment]


def slow_since(kind, calls):
    """What since must give back for a right history."""
    for moment in sorted({calls[number][1] for number in ended(calls)}):
        seen = seen_by(calls, moment)
        if len(slow_places(kind, seen)) > 256:
            return [-28]
        if not any(explains(kind, seen, numbers) for numbers in every_order(seen)):
            return [0, moment]
    return [-33]


def told_places(kind, calls, numbers):
    """The places (done, held) that stand in the numbers, or None if they aren't places in numbers."""
    places, rest = [], list(numbers)
    while rest:
        done, held = rest[0], rest[2:]
        if len(rest) == 1 or len(held) < rest[1]:
            return None
        held, rest = held[:rest[1]], held[rest[1]:]
        if done >= 2 ** len(calls) or kind in (BOX, SUM) and len(held) != 1:
            return None
        if kind == SET and held != sorted(set(held)):
            return None
        places.append((done, held))
    return places


def slow_steps(kind, calls, place):
    """The places that one comes to from a place."""
    waiting = [number for number in range(len(calls)) if place[0] // 2 ** number % 2 == 0]
    places = []
    for number in waiting:
        begin, end, what, a, b, answered = calls[number]
        thing = holding(kind, place[1])
        if thing.answer(what, a, b) == answered or end == NEVER:
            if all(calls[other][1] >= begin for other in waiting):
                places.append((place[0] + 2 ** number, thing.held()))
    return places


def slow_check(kind, calls, numbers):
    """What check must give back for a right history."""
    places = told_places(kind, calls, numbers)
    if places is None:
        return [-71]
    if len(places) > 256:
        return [-28]
    start = (0, [0] if kind in (BOX, SUM) else [])
    whole = sum(2 ** number for number in ended(calls))
    return [int(start in places and not any(place[0] & whole == whole for place in places)
                and all(step in places for place in places for step in slow_steps(kind, calls, place)))]


def every_two_calls():
    """Pairs of a kind and two calls of it, over every way in which two may lie in time and be answered."""
    moments = [(begin, end) for begin in range(2) for end in (0, 1, NEVER) if end >= begin]
    told = []
    for kind, sorts in SORTS.items():
        ways = [(begin, end, what, a, 1, answered) for begin, end in moments for what in range(sorts)
                for a in range(2) for answered in range(3)]
        told.extend((kind, [first, second]) for first in ways for second in ways)
    return told


class Draws:
    """Numbers that look drawn by lot and are the same each time."""

    def __init__(self, seed):
        self.state = seed

    def below(self, bound):
        self.state = (self.state * 6364136223846793005 + 1442695040888963407) % 2 ** 64
        return (self.state >> 33) % bound


def drawn_calls(draws, kind, most, wrong=12):
    """Calls answered as in some order, told in another one, one in so many answered by lot."""
    thing = Thing(kind)
    calls = []
    for at in range(draws.below(most + 1)):
        what, a, b = draws.below(SORTS[kind]), draws.below(3), draws.below(3)
        answered = thing.answer(what, a, b)
        if draws.below(wrong) == 0:
            answered = draws.below(4)
        begin = max(0, 3 * at - draws.below(9))
        end = NEVER if draws.below(4) == 0 else 3 * at + draws.below(9)
        calls.insert(draws.below(len(calls) + 1), (begin, end, what, a, b, answered))
    return calls
