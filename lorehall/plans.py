"""Whether two plans do the same from all stands, or the fewest beats by which they part."""

from lorehall.beats import after_beat
from lorehall.halls import check_hall, check_plan
from lorehall.stands import all_stands, check_few


def ways(hall, plan):
    """Tell, for each beat of the plan, a dict of each stand of the hall to the one behind the beat."""
    stands = all_stands(hall)
    return [{stand: after_beat(hall, stand, beat) for stand in stands} for beat in plan]


def first_unlike(begins, comings, others):
    """Tell the first beginning whose two comings are unlike, or None."""
    for begin, coming, other in zip(begins, comings, others):
        if coming != other:
            return begin
    return None


def first_parting(hall, one, other):
    """Tell (beats, stand) where two plans part soonest, or None, of arguments that are checked already."""
    ways_of_one = ways(hall, one)
    ways_of_other = ways(hall, other)
    begins = all_stands(hall)
    comings = begins
    # Behind so many beats both plans begin anew, from what is a beginning too:
    # so what parts them later parts them, from that one, within these beats.
    for beats in range(len(one) * len(other)):
        way_of_one = ways_of_one[beats % len(one)]
        way_of_other = ways_of_other[beats % len(other)]
        others = [way_of_other[stand] for stand in comings]
        comings = [way_of_one[stand] for stand in comings]
        begin = first_unlike(begins, comings, others)
        if begin is not None:
            return beats + 1, begin
    return None


def parted(hall, one, other):
    """Tell (beats, stand), the least beats and the first stand by which two plans part, or None."""
    check_hall(hall)
    check_plan(hall, one)
    check_plan(hall, other)
    check_few(hall)
    return first_parting(hall, one, other)
