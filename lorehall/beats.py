"""Lessons, using and waning: what a beat does, and what a plan leads to."""

from lorehall.errors import NoCount
from lorehall.halls import check_beat, check_hall, check_plan, check_stand, is_whole

MOST_COUNT = 10 ** 18


def is_lesson(things, levels, meeting):
    """Tell whether the meeting is a lesson by the levels as they are."""
    one, other, thing = meeting
    needs, teach, cap, loss = things[thing]
    return levels[one][thing] >= teach and all([levels[other][need] >= 1 for need in needs])


def learn(things, levels, meeting):
    """Raise, in levels, what the other one knows by a meeting that is a lesson."""
    one, other, thing = meeting
    needs, teach, cap, loss = things[thing]
    levels[other][thing] = min(levels[other][thing] + 1, cap)


def waned(things, levels, used):
    """Tell the levels of one of the folk behind a beat at which they used what is used."""
    return tuple([
        level if in_use else max(level - loss, 0)
        for level, in_use, (needs, teach, cap, loss) in zip(levels, used, things)
    ])


def after_beat(hall, stand, beat):
    """Tell the stand behind a beat, of arguments that are checked already."""
    folk, things = hall
    levels = [list(row) for row in stand]
    used = [[False for level in row] for row in stand]
    for meeting in beat:
        if is_lesson(things, levels, meeting):
            learn(things, levels, meeting)
            one, other, thing = meeting
            # A lesson at the cap raises nothing, but the thing is used all the same.
            used[one][thing] = True
            used[other][thing] = True
    return tuple([waned(things, levels[who], used[who]) for who in range(folk)])


def walk_plan(hall, stand, plan):
    """Tell the stands ahead of each beat of the plan, gone through once, and the one behind the last."""
    stands = [stand]
    for beat in plan:
        stands.append(after_beat(hall, stands[-1], beat))
    return stands


def after_plan(hall, stand, plan):
    """Tell the stand behind all beats of the plan, one after the other."""
    return walk_plan(hall, stand, plan)[-1]


def walk_round(hall, stand, plan):
    """Tell (stands, first): the stands behind 0, 1, 2 .. beats till all comes round.

    The stand behind the last one told is that behind first beats, at the same
    beat of the plan.
    """
    stands = []
    seen = {}
    place = 0
    while (stand, place) not in seen:
        seen[(stand, place)] = len(stands)
        stands.append(stand)
        stand = after_beat(hall, stand, plan[place])
        place = (place + 1) % len(plan)
    return stands, seen[(stand, place)]


def check_count(beats):
    """Refuse what is no number of beats."""
    if not is_whole(beats, 0, MOST_COUNT):
        raise NoCount("this is no number of beats")


def by_beat(hall, stand, beat):
    """Tell the stand behind a beat."""
    check_hall(hall)
    check_stand(hall, stand)
    check_beat(hall, beat)
    return after_beat(hall, stand, beat)


def by_plan(hall, stand, plan, beats):
    """Tell the stand behind so many beats of a plan."""
    check_hall(hall)
    check_stand(hall, stand)
    check_plan(hall, plan)
    check_count(beats)
    stands, first = walk_round(hall, stand, plan)
    if beats < len(stands):
        return stands[beats]
    return stands[first + (beats - first) % (len(stands) - first)]


def comes_round(hall, stand, plan):
    """Tell (first, long): behind how many beats all comes again, and how many beats later."""
    check_hall(hall)
    check_stand(hall, stand)
    check_plan(hall, plan)
    stands, first = walk_round(hall, stand, plan)
    return first, len(stands) - first
