"""How the tests write calls and read answers."""

from steppedover.river import answers


def begin(bears):
    return [0, len(bears)] + list(bears)


def most(leap):
    return [1, leap]


def narrowest(leap):
    return [2, leap]


def fewest(leap):
    return [3, leap]


def plan(leap, people):
    return [4, leap, people]


def go(leap, path):
    return [5, leap, len(path)] + list(path)


def cross(leap, people):
    return [6, leap, people]


def lay(place, steps):
    return [7, place, steps]


def mend(leap, people):
    return [8, leap, people]


def do(leap, people):
    return [9, leap, people]


def look():
    return [10]


def line_of(calls):
    return [number for call in calls for number in call]


def apart(told):
    """The answers one by one, without the counts before them."""
    parts = []
    at = 0
    while at < len(told):
        end = at + 1 + told[at]
        if end > len(told):
            raise ValueError("an answer is shorter than its count tells")
        parts.append(told[at + 1:end])
        at = end
    return parts


def told(*calls):
    """What is answered to each of these calls, made on one new river."""
    parts = apart(answers(line_of(calls)))
    if len(parts) != len(calls):
        raise ValueError("there are not as many answers as calls")
    return parts


def on(bears, call):
    """What one call answers on a river that bears this."""
    return told(begin(bears), call)[1]


def looked(*calls):
    """What look tells behind these calls."""
    return told(*calls, look())[-1]


def left(*calls):
    """What each place bears behind these calls."""
    return looked(*calls)[4:]


def look_round():
    """Calls that change nothing, whose answers together tell rivers apart."""
    calls = [narrowest(leap) for leap in range(1, 12)]
    calls += [fewest(leap) for leap in range(1, 12)]
    calls += [plan(leap, people) for leap in range(1, 7) for people in (1, 2, 4)]
    return calls


def seen(*calls):
    """What look_round tells behind these calls."""
    return told(*calls, *look_round())[len(calls):]
