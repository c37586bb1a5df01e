"""What the tests share: calls by name, answers taken apart, and odd, check and best by plain trying."""

import functools
import itertools

from netmends.nets import answers

LARGEST = 4294967295
SIDES = (2, 3, 4)
SIZES = [(wide, high) for wide in SIDES for high in SIDES]


def begins(wide, high):
    return [0, wide, high]


def tear(bar):
    return [1, bar]


def mend(bar):
    return [2, bar]


def ends(bar):
    return [3, bar]


def odd():
    return [4]


def check(*knots):
    return [5, len(knots), *knots]


def best():
    return [6]


def torn_net(wide, high, torn):
    return [begins(wide, high), *[tear(bar) for bar in torn]]


def flat(calls):
    return [number for call in calls for number in call]


def apart(told):
    """The answers, one list a call; the counts must go up in the whole."""
    given = []
    place = 0
    while place < len(told):
        behind = place + 1 + told[place]
        if told[place] < 1 or behind > len(told):
            raise AssertionError(f"counts don't fit: {told}")
        given.append(told[place + 1:behind])
        place = behind
    return given


def ask(*calls):
    given = apart(answers(flat(calls)))
    if len(given) != len(calls):
        raise AssertionError(f"{len(calls)} calls, {len(given)} answers")
    return given


def last(*calls):
    return ask(*calls)[-1]


def bars_of(wide, high):
    """Each bar's two knots, built by walking the net as the document numbers it."""
    bars = []
    for y in range(high):
        for x in range(wide):
            if x + 1 < wide:
                bars.append((y * wide + x, y * wide + x + 1))
    for y in range(high):
        for x in range(wide):
            if y + 1 < high:
                bars.append((y * wide + x, (y + 1) * wide + x))
    return bars


def torn_now(count, *calls):
    """Which of the first `count` bars are torn behind the calls: tearing those again is refused."""
    torn = []
    for bar in range(count):
        if last(*calls, tear(bar)) == [-4]:
            torn.append(bar)
    return torn


def plain_odd(bars, torn):
    met = [knot for bar in torn for knot in bars[bar]]
    odd_ones = [knot for knot in sorted(set(met)) if met.count(knot) % 2 == 1]
    return [len(odd_ones), *odd_ones]


def plain_check(bars, torn, knots):
    """Walks the row, and gives up at the first step that no torn bar is left for."""
    if any(knot > bars[-1][1] for knot in knots):
        return [-1]
    left = [bars[bar] for bar in torn]
    for place in range(1, len(knots)):
        step = tuple(sorted(knots[place - 1:place + 1]))
        if step not in left:
            return [0]
        left.remove(step)
    return [0] if left else [1]


def steps_from(bars, knot):
    """The knots beside this one, rising, each with the bit of the bar that leads there."""
    return sorted((sum(knots) - knot, 1 << bar) for bar, knots in enumerate(bars) if knot in knots)


def plain_best(bars, torn):
    """Tries all sets, and from each knot all ways over the torn bars and the set; the earlier ones first."""
    steps = [steps_from(bars, knot) for knot in range(bars[-1][1] + 1)]

    @functools.lru_cache(maxsize=None)
    def onward(here, left):
        if not left:
            return (here,)
        for there, bit in steps[here]:
            rest = onward(there, left - bit) if left & bit else ()
            if rest:
                return (here, *rest)
        return ()

    def way_over(over):
        ways = (onward(knot, sum(1 << bar for bar in over)) for knot in range(len(steps)))
        return next((way for way in ways if way), ())

    if not torn:
        return [0, 1]
    sound = [bar for bar in range(len(bars)) if bar not in torn]
    for size in range(5):
        ways = [(cut, way_over([*torn, *cut])) for cut in itertools.combinations(sound, size)]
        done = [(cut, way) for cut, way in ways if way]
        if done:
            return [size, len(done), *done[0][0], *done[0][1]]
    return [-6]
