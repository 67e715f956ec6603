"""What is kept for ever: from a stand, or from some stand; and what stays as it was."""

from lorehall.beats import after_plan, walk_round
from lorehall.halls import check_hall, check_plan, check_stand, full
from lorehall.stands import known_throughout


def kept_things(hall, stand, plan):
    """Tell the things that are kept from a stand, of arguments that are checked already."""
    folk, things = hall
    stands, first = walk_round(hall, stand, plan)
    return [thing for thing in range(len(things)) if known_throughout(stands, thing)]


def kept_from_some(hall, plan):
    """Tell the things that are kept from some stand, of arguments that are checked already."""
    # Who begins with no less never comes to less: what any stand keeps, the full one does.
    return kept_things(hall, full(hall), plan)


def fall(hall, plan):
    """Tell what the full stand comes to behind 0, 1, 2 .. whole plans, till it stays.

    Nothing is more than the full stand, and who begins with less never comes
    to more: so each stand told is less than the one ahead of it, and the last
    one is no less than any stand that is as it was behind a whole plan.
    """
    stands = [full(hall)]
    coming = after_plan(hall, stands[-1], plan)
    while coming != stands[-1]:
        stands.append(coming)
        coming = after_plan(hall, coming, plan)
    return stands


def kept_from(hall, stand, plan):
    """Tell the things that are kept from a stand by a plan, rising."""
    check_hall(hall)
    check_stand(hall, stand)
    check_plan(hall, plan)
    return kept_things(hall, stand, plan)


def can_be_kept(hall, plan):
    """Tell the things that are kept from some stand by a plan, rising."""
    check_hall(hall)
    check_plan(hall, plan)
    return kept_from_some(hall, plan)


def greatest(hall, plan):
    """Tell the greatest stand that is as it was behind all beats of the plan."""
    check_hall(hall)
    check_plan(hall, plan)
    return fall(hall, plan)[-1]
