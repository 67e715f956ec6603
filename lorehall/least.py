"""The least beginnings that keep a thing."""

from lorehall.beats import walk_plan
from lorehall.halls import check_hall, check_plan, check_thing
from lorehall.stands import all_stands, check_few, known_throughout


def keepers(hall, plan, thing):
    """Tell, as the keys of a dict, all stands from which the thing is kept, rising."""
    coming = {}
    for stand in all_stands(hall):
        walked = walk_plan(hall, stand, plan)
        if known_throughout(walked, thing):
            coming[stand] = walked[-1]
    while True:
        # What comes to a stand that loses the thing loses it too, if only some plans later.
        left = {stand: coming[stand] for stand in coming if coming[stand] in coming}
        if len(left) == len(coming):
            return left
        coming = left


def one_level_less(stand):
    """Tell all stands that are one less in one level and like the stand in all others."""
    return [
        stand[:who] + (levels[:thing] + (level - 1,) + levels[thing + 1:],) + stand[who + 1:]
        for who, levels in enumerate(stand)
        for thing, level in enumerate(levels)
        if level >= 1
    ]


def least_from(hall, plan, thing):
    """Tell all least stands from which the thing is kept by the plan, rising."""
    check_hall(hall)
    check_plan(hall, plan)
    check_thing(hall, thing)
    check_few(hall)
    keeping = keepers(hall, plan, thing)
    # Where a stand that is less keeps the thing, so does each that is no less than it,
    # and one of these is less than this one by a single level.
    return [stand for stand in keeping if not any([less in keeping for less in one_level_less(stand)])]
