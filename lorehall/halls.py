"""Halls, and what is a stand, a beat or a plan of one.

The check functions refuse what is none. Callers use one for each argument,
in the order of the arguments, so that the first wrong one is refused.
"""

from lorehall.errors import NoBeat, NoHall, NoMeeting, NoPlan, NoStand, NoThing

LEAST_FOLK = 2
MOST_FOLK = 4
MOST_THINGS = 3
MOST_CAP = 3
MOST_MEETINGS = 4
MOST_BEATS = 4


def is_whole(thing, least, most):
    """Tell whether thing is a whole number from least to most."""
    # True and False are ints to Python, but no whole numbers here.
    if isinstance(thing, bool) or not isinstance(thing, int):
        return False
    return least <= thing <= most


def is_row(thing, least, most):
    """Tell whether thing is a tuple of least to most items."""
    return isinstance(thing, tuple) and least <= len(thing) <= most


def are_needs(thing, place):
    """Tell whether thing is a rising tuple of places less than place."""
    if not isinstance(thing, tuple):
        return False
    least = 0
    for need in thing:
        if not is_whole(need, least, place - 1):
            return False
        least = need + 1
    return True


def is_lore(thing, place):
    """Tell whether thing can stand in a hall as its thing at place."""
    if not is_row(thing, 4, 4):
        return False
    needs, teach, cap, loss = thing
    # teach and loss are bounded by cap, so cap must be a number ahead of them.
    if not is_whole(cap, 1, MOST_CAP):
        return False
    return are_needs(needs, place) and is_whole(teach, 1, cap) and is_whole(loss, 0, cap)


def is_hall(thing):
    """Tell whether thing is a hall."""
    if not is_row(thing, 2, 2):
        return False
    folk, things = thing
    if not is_whole(folk, LEAST_FOLK, MOST_FOLK) or not is_row(things, 1, MOST_THINGS):
        return False
    return all([is_lore(lore, place) for place, lore in enumerate(things)])


def caps_of(hall):
    """Tell the caps of all things of a hall."""
    folk, things = hall
    return tuple([cap for needs, teach, cap, loss in things])


def are_levels(thing, caps):
    """Tell whether thing is a tuple with a level for each cap."""
    if not is_row(thing, len(caps), len(caps)):
        return False
    return all([is_whole(level, 0, cap) for level, cap in zip(thing, caps)])


def is_stand(hall, thing):
    """Tell whether thing is a stand of the hall."""
    check_hall(hall)
    folk, things = hall
    if not is_row(thing, folk, folk):
        return False
    caps = caps_of(hall)
    return all([are_levels(levels, caps) for levels in thing])


def is_meeting(hall, thing):
    """Tell whether thing is a meeting of the hall."""
    if not is_row(thing, 3, 3):
        return False
    folk, things = hall
    one, other, place = thing
    if not is_whole(one, 0, folk - 1) or not is_whole(other, 0, folk - 1):
        return False
    return one != other and is_whole(place, 0, len(things) - 1)


def is_beat(hall, thing):
    """Tell whether thing is a beat of the hall."""
    check_hall(hall)
    if not is_row(thing, 0, MOST_MEETINGS):
        return False
    return all([is_meeting(hall, meeting) for meeting in thing])


def is_plan(hall, thing):
    """Tell whether thing is a plan of the hall."""
    check_hall(hall)
    if not is_row(thing, 1, MOST_BEATS):
        return False
    return all([is_beat(hall, beat) for beat in thing])


def full(hall):
    """Tell the stand of the hall that has all caps."""
    check_hall(hall)
    folk, things = hall
    return (caps_of(hall),) * folk


def bare(hall):
    """Tell the stand of the hall that has all 0."""
    check_hall(hall)
    folk, things = hall
    return ((0,) * len(things),) * folk


def check_hall(hall):
    """Refuse what is no hall."""
    if not is_hall(hall):
        raise NoHall("this is no hall")


def check_stand(hall, stand):
    """Refuse what is no stand of the hall."""
    if not is_stand(hall, stand):
        raise NoStand("this is no stand of the hall")


def check_beat(hall, beat):
    """Refuse what is no beat of the hall."""
    if not is_beat(hall, beat):
        raise NoBeat("this is no beat of the hall")


def check_plan(hall, plan):
    """Refuse what is no plan of the hall."""
    if not is_plan(hall, plan):
        raise NoPlan("this is no plan of the hall")


def check_thing(hall, thing):
    """Refuse what is no place of a thing of the hall."""
    folk, things = hall
    if not is_whole(thing, 0, len(things) - 1):
        raise NoThing("this is no place of a thing of the hall")


def check_meeting(hall, meeting):
    """Refuse what is no meeting of the hall."""
    if not is_meeting(hall, meeting):
        raise NoMeeting("this is no meeting of the hall")
