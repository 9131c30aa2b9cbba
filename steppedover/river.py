"""A river with stepping stones, and the calls that are made on it.

Places are told from 1 on, so place p is at index p - 1 of what the places bear.
Every answer is a list: the numbers answered, or a refusal.
"""

BEGIN = 0
MOST = 1
NARROWEST = 2
FEWEST = 3
PLAN = 4
GO = 5
CROSS = 6
LAY = 7
MEND = 8
DO = 9

# How many whole numbers stand behind a call's own number, ahead of its row.
NUMBERS_OF_CALL = (0, 1, 1, 1, 2, 1, 2, 2, 2, 2, 0)

MOST_PLACES = 11
MOST_BORNE = 5
LONGEST_LEAP = 12
MOST_PEOPLE = 20

DOES_NOT_FIT = -1
BEARS_TOO_LITTLE = -6
TOO_FAR = -7
NO_STRETCH = -8
NO_RIVER = -9


class River:
    """What a line of calls is made on; it has no places until a begin is taken."""

    def __init__(self):
        self.bears = []
        self.people = 0
        self.steps = 0
        self.laid = 0


def leap_fits(leap):
    return 1 <= leap and leap <= LONGEST_LEAP


def people_fit(people):
    return 1 <= people and people <= MOST_PEOPLE


def far_bank(bears):
    return len(bears) + 1


def stretch_sums(bears, leap):
    """How many steps each stretch bears, from the one with the lowest first place on."""
    return [sum(bears[start:start + leap]) for start in range(len(bears) - leap + 1)]


def can_get_over(bears, leap, people):
    # Everybody steps into every stretch, and the plan shows that nothing more is needed.
    return all([borne >= people for borne in stretch_sums(bears, leap)])


def begin(river, bears):
    if len(bears) < 1 or len(bears) > MOST_PLACES or max(bears) > MOST_BORNE:
        return [DOES_NOT_FIT]
    river.bears = list(bears)
    river.people = 0
    river.steps = 0
    river.laid = 0
    return [0]


def most(river, leap):
    if not leap_fits(leap):
        return [DOES_NOT_FIT]
    sums = stretch_sums(river.bears, leap)
    if len(sums) == 0:
        return [NO_STRETCH]
    return [min(sums)]


def narrowest(river, leap):
    if not leap_fits(leap):
        return [DOES_NOT_FIT]
    sums = stretch_sums(river.bears, leap)
    if len(sums) == 0:
        return [NO_STRETCH]
    borne = min(sums)
    return [borne, sums.index(borne) + 1]


def farthest_stone(bears, stand, leap):
    """The farthest place within a leap whose stone bears a step; there must be one."""
    place = stand + leap
    while bears[place - 1] == 0:
        place = place - 1
    return place


def fewest(river, leap):
    if not leap_fits(leap):
        return [DOES_NOT_FIT]
    if not can_get_over(river.bears, leap, 1):
        return [BEARS_TOO_LITTLE]
    path = []
    stand = 0
    while stand + leap < far_bank(river.bears):
        stand = farthest_stone(river.bears, stand, leap)
        path.append(stand)
    return [len(path)] + path


def steps_in_a_row(bears, people):
    """The place of every step that the stones bear, rising, each place people times at most."""
    places = []
    for place, borne in enumerate(bears, start=1):
        places.extend([place] * min(borne, people))
    return places


def planned_paths(bears, leap, people):
    """The path of each of the people by the plan; so many must be able to get over."""
    paths = [[] for person in range(people)]
    stands = [0] * people
    for turn, place in enumerate(steps_in_a_row(bears, people)):
        person = turn % people
        # A place that is dealt to somebody who can leap to the far bank is used up, but not stepped on.
        if stands[person] + leap < far_bank(bears):
            paths[person].append(place)
            stands[person] = place
    return paths


def plan(river, leap, people):
    if not leap_fits(leap) or not people_fit(people):
        return [DOES_NOT_FIT]
    if not can_get_over(river.bears, leap, people):
        return [BEARS_TOO_LITTLE]
    numbers = []
    for path in planned_paths(river.bears, leap, people):
        numbers.append(len(path))
        numbers.extend(path)
    return numbers


def rises_between_banks(bears, path):
    stand = 0
    for place in path:
        if place <= stand or place >= far_bank(bears):
            return False
        stand = place
    return True


def first_hindrance(bears, leap, path):
    """The refusal that a path meets first, with its place; an empty list if it meets none."""
    stand = 0
    for place in path:
        if place - stand > leap:
            return [TOO_FAR, place]
        if bears[place - 1] == 0:
            return [BEARS_TOO_LITTLE, place]
        stand = place
    if far_bank(bears) - stand > leap:
        return [TOO_FAR, far_bank(bears)]
    return []


def get_over(river, path):
    for place in path:
        river.bears[place - 1] = river.bears[place - 1] - 1
    river.people = river.people + 1
    river.steps = river.steps + len(path)


def go(river, leap, path):
    if not leap_fits(leap) or not rises_between_banks(river.bears, path):
        return [DOES_NOT_FIT]
    hindrance = first_hindrance(river.bears, leap, path)
    if len(hindrance) > 0:
        return hindrance
    get_over(river, path)
    return [len(path)]


def cross(river, leap, people):
    if not leap_fits(leap) or not people_fit(people):
        return [DOES_NOT_FIT]
    if not can_get_over(river.bears, leap, people):
        return [BEARS_TOO_LITTLE]
    paths = planned_paths(river.bears, leap, people)
    for path in paths:
        get_over(river, path)
    return [sum([len(path) for path in paths])]


def lay_on(river, place, steps):
    river.bears[place - 1] = river.bears[place - 1] + steps
    river.laid = river.laid + steps


def lay(river, place, steps):
    if place < 1 or place >= far_bank(river.bears) or steps == 0:
        return [DOES_NOT_FIT]
    if river.bears[place - 1] + steps > MOST_BORNE:
        return [DOES_NOT_FIT]
    lay_on(river, place, steps)
    return [river.bears[place - 1]]


def could_be_mended(bears, leap, people):
    return can_get_over([MOST_BORNE] * len(bears), leap, people)


def borne_when_mended(bears, leap, people):
    """What each place bears with what is laid for the people; it must be possible to mend for so many."""
    borne = list(bears)
    for last in range(leap, far_bank(bears)):
        missing = people - sum(borne[last - leap:last])
        place = last
        while missing > 0:
            more = min(missing, MOST_BORNE - borne[place - 1])
            borne[place - 1] = borne[place - 1] + more
            missing = missing - more
            place = place - 1
    return borne


def laid_for(bears, leap, people):
    """How many steps are laid at each place for the people; it must be possible to mend for so many."""
    return [then - now for then, now in zip(borne_when_mended(bears, leap, people), bears)]


def mend(river, leap, people):
    if not leap_fits(leap) or not people_fit(people):
        return [DOES_NOT_FIT]
    if not could_be_mended(river.bears, leap, people):
        return [BEARS_TOO_LITTLE]
    laid = laid_for(river.bears, leap, people)
    return [sum(laid)] + laid


def do(river, leap, people):
    told = mend(river, leap, people)
    if told[0] < 0:
        return told
    for place, steps in enumerate(told[1:], start=1):
        lay_on(river, place, steps)
    return [told[0]]


def look(river):
    return [river.people, river.steps, river.laid, len(river.bears)] + river.bears


def answer_of(river, call, numbers, row):
    if call == BEGIN:
        return begin(river, row)
    if len(river.bears) == 0:
        return [NO_RIVER]
    if call == MOST:
        return most(river, numbers[0])
    if call == NARROWEST:
        return narrowest(river, numbers[0])
    if call == FEWEST:
        return fewest(river, numbers[0])
    if call == PLAN:
        return plan(river, numbers[0], numbers[1])
    if call == GO:
        return go(river, numbers[0], row)
    if call == CROSS:
        return cross(river, numbers[0], numbers[1])
    if call == LAY:
        return lay(river, numbers[0], numbers[1])
    if call == MEND:
        return mend(river, numbers[0], numbers[1])
    if call == DO:
        return do(river, numbers[0], numbers[1])
    return look(river)


def answers(calls):
    """The answers to the calls of one line, each with how many numbers it has before it."""
    river = River()
    told = []
    at = 0
    while at < len(calls):
        call = calls[at]
        at = at + 1
        numbers = calls[at:at + NUMBERS_OF_CALL[call]]
        at = at + len(numbers)
        row = []
        if call == BEGIN or call == GO:
            row = calls[at + 1:at + 1 + calls[at]]
            at = at + 1 + len(row)
        answer = answer_of(river, call, numbers, row)
        told.append(len(answer))
        told.extend(answer)
    return told
