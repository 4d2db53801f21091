"""Histories: many calls of one thing at once, and the orders that explain them.

A place is a tuple (done, holds): bit k of done stands for call k, and holds is
the tuple of the numbers that the thing holds.
"""

NOT_RIGHT = -22
TOO_MANY = -28
THERE_IS_NONE = -33
NO_PLACES = -71

NEVER = 4294967295
SUM_GOES_ROUND = 4294967296
NUMBERS_IN_A_CALL = 6
MOST_CALLS = 16
MOST_PLACES = 256
MOST_NUMBERS = 65536

SORTS_OF_CALL = (3, 2, 3, 2)
HELD_AT_FIRST = ((0,), (), (), (0,))


class Call:
    """One call: when it began and ended, what it is, and what it was answered."""

    def __init__(self, numbers):
        self.begin = numbers[0]
        self.end = numbers[1]
        self.what = numbers[2]
        self.a = numbers[3]
        self.b = numbers[4]
        self.answered = numbers[5]


def calls_of(history):
    """The calls that a history tells, one behind another."""
    size = NUMBERS_IN_A_CALL
    return [Call(history[at:at + size]) for at in range(0, len(history), size)]


def is_right(kind, calls):
    """Whether there's such a kind of thing, and these may be calls of it."""
    if kind >= len(SORTS_OF_CALL) or len(calls) > MOST_CALLS:
        return False
    for call in calls:
        if call.what >= SORTS_OF_CALL[kind] or call.end < call.begin:
            return False
    return True


def call_box(holds, call):
    """What a box answers the call, and what it holds then."""
    if call.what == 0:
        return (holds[0], holds)
    if call.what == 1:
        return (0, (call.a,))
    if holds[0] == call.a:
        return (1, (call.b,))
    return (0, holds)


def call_row(holds, call):
    """What a row answers the call, and what it holds then."""
    if call.what == 0:
        return (0, holds + (call.a,))
    if len(holds) == 0:
        return (0, holds)
    return (holds[0] + 1, holds[1:])


def call_set(holds, call):
    """What a set answers the call, and what it holds then."""
    there = call.a in holds
    if call.what == 0 and not there:
        return (1, tuple(sorted(holds + (call.a,))))
    if call.what == 1 and there:
        return (1, tuple([held for held in holds if held != call.a]))
    if call.what == 2 and there:
        return (1, holds)
    return (0, holds)


def call_sum(holds, call):
    """What a sum answers the call, and what it holds then."""
    if call.what == 0:
        return (holds[0], ((holds[0] + call.a) % SUM_GOES_ROUND,))
    return (holds[0], holds)


def call_thing(kind, holds, call):
    """What a thing of this kind answers the call, and what it holds then."""
    if kind == 0:
        return call_box(holds, call)
    if kind == 1:
        return call_row(holds, call)
    if kind == 2:
        return call_set(holds, call)
    return call_sum(holds, call)


def ended(call):
    """Whether the call ended at all."""
    return call.end != NEVER


def is_done(done, number):
    """Whether the call of this number is among those that are done."""
    return (done >> number) & 1 == 1


def start_of(kind):
    """The place at which none is done."""
    return (0, HELD_AT_FIRST[kind])


def is_whole(calls, place):
    """Whether all that ended are done at this place."""
    for number, call in enumerate(calls):
        if ended(call) and not is_done(place[0], number):
            return False
    return True


def is_due(calls, done, number):
    """Whether the call isn't done, and none that isn't done ended before it began."""
    if is_done(done, number):
        return False
    # One that never ended needs no care here: no moment is later than NEVER.
    for other, call in enumerate(calls):
        if call.end < calls[number].begin and not is_done(done, other):
            return False
    return True


def place_behind(kind, calls, place, number):
    """The place that one comes to from a place with the call of this number; None if there's none."""
    if not is_due(calls, place[0], number):
        return None
    call = calls[number]
    outcome = call_thing(kind, place[1], call)
    if ended(call) and outcome[0] != call.answered:
        return None
    return (place[0] | (1 << number), outcome[1])


def steps_from(kind, calls, place):
    """The pairs (call, place that one comes to with it) from a place, the least call first."""
    steps = []
    for number in range(len(calls)):
        behind = place_behind(kind, calls, place, number)
        if behind is not None:
            steps.append((number, behind))
    return steps


def places_come_to(kind, calls):
    """The places that are come to, in order; None if they're too many."""
    places = [start_of(kind)]
    there = {places[0]: True}
    at = 0
    # Whole places are gone on from too: what comes behind them is counted like the others.
    while at < len(places):
        steps = steps_from(kind, calls, places[at])
        for step in steps:
            if step[1] not in there:
                if len(places) == MOST_PLACES:
                    return None
                there[step[1]] = True
                places.append(step[1])
        at += 1
    return places


def some_order_explains(calls, places):
    """Whether some order explains the calls, told by all the places that are come to."""
    # By an order that explains all one comes to a whole place, and whatever leads to a whole place is such an order.
    return any([is_whole(calls, place) for place in places])


def in_numbers(places):
    """The places in numbers: of each which calls are done, how many numbers the thing holds, and they."""
    numbers = []
    for place in places:
        numbers.append(place[0])
        numbers.append(len(place[1]))
        numbers.extend(place[1])
    return numbers


def place_at(numbers, at):
    """The place that stands in the numbers from here on; None if they end within it."""
    if at + 1 == len(numbers):
        return None
    behind = at + 2 + numbers[at + 1]
    if behind > len(numbers):
        return None
    return (numbers[at], tuple(numbers[at + 2:behind]))


def rise(numbers):
    """Whether each of the numbers is above the one before it."""
    for at in range(1, len(numbers)):
        if numbers[at] <= numbers[at - 1]:
            return False
    return True


def may_hold(kind, numbers):
    """Whether a thing of this kind may hold just these numbers."""
    if kind == 1:
        return True
    if kind == 2:
        return rise(numbers)
    return len(numbers) == 1


def places_in(kind, calls, numbers):
    """The places that stand in the numbers, one behind another; None if they aren't places in numbers."""
    places = []
    at = 0
    while at < len(numbers):
        place = place_at(numbers, at)
        if place is None or place[0] >> len(calls) != 0 or not may_hold(kind, place[1]):
            return None
        places.append(place)
        at += 2 + len(place[1])
    return places


def steps_with_hope(kind, calls, place, hopeful):
    """Those of the steps from a place that lead to a hopeful one."""
    return [step for step in steps_from(kind, calls, place) if step[1] in hopeful]


def places_with_a_way(kind, calls, places):
    """Those of the places from which one comes to a whole one, as keys of a dict."""
    hopeful = {}
    # Each step does one call more, so it leads to a place further back in the list.
    for place in reversed(places):
        if is_whole(calls, place) or len(steps_with_hope(kind, calls, place, hopeful)) > 0:
            hopeful[place] = True
    return hopeful


def first_order(kind, calls, hopeful):
    """The first order that explains the calls; the start must be among the hopeful places."""
    numbers = []
    place = start_of(kind)
    while not is_whole(calls, place):
        step = steps_with_hope(kind, calls, place, hopeful)[0]
        numbers.append(step[0])
        place = step[1]
    return numbers


def explains(kind, calls, numbers):
    """Whether these numbers are an order, and it explains the calls."""
    place = start_of(kind)
    for number in numbers:
        # Asked ahead of the step, as there's no call to look at and the number may be far too large to shift by.
        if number >= len(calls):
            return False
        # A step asks that all that ended before the call began are done: in an order that holds all that ended
        # that's the same as that none of them stands behind it, and one that lacks some isn't whole in the end.
        place = place_behind(kind, calls, place, number)
        if place is None:
            return False
    return is_whole(calls, place)


def leads_out(kind, calls, place, there):
    """Whether some step from the place leads to one that isn't there."""
    return any([step[1] not in there for step in steps_from(kind, calls, place)])


def prove(kind, calls, places):
    """Whether the start is among the places, none of them is whole, and no step leads out of them."""
    there = {}
    for place in places:
        there[place] = True
    if start_of(kind) not in there:
        return False
    for place in places:
        if is_whole(calls, place) or leads_out(kind, calls, place, there):
            return False
    return True


def moments_of_end(calls):
    """The moments at which calls ended, rising, each once."""
    return sorted(set([call.end for call in calls if ended(call)]))


def seen_by(calls, moment):
    """The calls that had begun by a moment, those that hadn't ended by then as ones that didn't end."""
    seen = []
    for call in calls:
        if call.begin <= moment:
            end = call.end if call.end <= moment else NEVER
            seen.append(Call([call.begin, end, call.what, call.a, call.b, call.answered]))
    return seen


def order(kind, history):
    """The first order that explains the history: how many calls are in it, and they."""
    calls = calls_of(history)
    if not is_right(kind, calls):
        return [NOT_RIGHT]
    places = places_come_to(kind, calls)
    if places is None:
        return [TOO_MANY]
    hopeful = places_with_a_way(kind, calls, places)
    if start_of(kind) not in hopeful:
        return [THERE_IS_NONE]
    numbers = first_order(kind, calls, hopeful)
    return [len(numbers)] + numbers


def follows(kind, history, order):
    """1 if the order that's told explains the history, else 0."""
    calls = calls_of(history)
    if not is_right(kind, calls):
        return [NOT_RIGHT]
    return [1 if explains(kind, calls, order) else 0]


def proof(kind, history):
    """The places that are come to, where no order explains the history: how many, and they in numbers."""
    calls = calls_of(history)
    if not is_right(kind, calls):
        return [NOT_RIGHT]
    places = places_come_to(kind, calls)
    if places is None:
        return [TOO_MANY]
    if some_order_explains(calls, places):
        return [THERE_IS_NONE]
    return [len(places)] + in_numbers(places)


def check(kind, history, proof):
    """1 if the places that are told in numbers prove that no order explains the history, else 0."""
    calls = calls_of(history)
    if not is_right(kind, calls):
        return [NOT_RIGHT]
    if len(proof) > MOST_NUMBERS:
        return [NO_PLACES]
    places = places_in(kind, calls, proof)
    if places is None:
        return [NO_PLACES]
    if len(places) > MOST_PLACES:
        return [TOO_MANY]
    return [1 if prove(kind, calls, places) else 0]


def since(kind, history):
    """0 and the first moment at which no order explains what had been seen of the history by then."""
    calls = calls_of(history)
    if not is_right(kind, calls):
        return [NOT_RIGHT]
    for moment in moments_of_end(calls):
        seen = seen_by(calls, moment)
        places = places_come_to(kind, seen)
        if places is None:
            return [TOO_MANY]
        if not some_order_explains(seen, places):
            return [0, moment]
    return [THERE_IS_NONE]
