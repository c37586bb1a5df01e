"""What the tests share: calls by name, and answers taken apart."""

from netmends.nets import answers

LARGEST = 4294967295
SIDES = (2, 3, 4)
SIZES = [(wide, high) for wide in SIDES for high in SIDES]


def begins(wide, high):
    return [0, wide, high]


def tear(bar):
    return [1, bar]


def mend(bar):
    return [2, bar]


def ends(bar):
    return [3, bar]


def flat(calls):
    return [number for call in calls for number in call]


def apart(told):
    """The answers, one list a call; the counts must go up in the whole."""
    given = []
    place = 0
    while place < len(told):
        behind = place + 1 + told[place]
        if told[place] < 1 or behind > len(told):
            raise AssertionError(f"counts don't fit: {told}")
        given.append(told[place + 1:behind])
        place = behind
    return given


def ask(*calls):
    given = apart(answers(flat(calls)))
    if len(given) != len(calls):
        raise AssertionError(f"{len(calls)} calls, {len(given)} answers")
    return given


def last(*calls):
    return ask(*calls)[-1]


def bars_of(wide, high):
    """Each bar's two knots, built by walking the net as the document numbers it."""
    bars = []
    for y in range(high):
        for x in range(wide):
            if x + 1 < wide:
                bars.append((y * wide + x, y * wide + x + 1))
    for y in range(high):
        for x in range(wide):
            if y + 1 < high:
                bars.append((y * wide + x, (y + 1) * wide + x))
    return bars


def torn_now(count, *calls):
    """Which of the first `count` bars are torn behind the calls: tearing those again is refused."""
    torn = []
    for bar in range(count):
        if last(*calls, tear(bar)) == [-4]:
            torn.append(bar)
    return torn
