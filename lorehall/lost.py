"""Papers that a thing is lost, whoever knows what at first."""

from lorehall.beats import after_plan, walk_plan
from lorehall.halls import check_hall, check_plan, check_thing, full, is_stand
from lorehall.kept import fall, kept_from_some
from lorehall.stands import known_throughout, no_less


def are_stands(hall, thing):
    """Tell whether thing is a list of one or more stands of the hall."""
    if not isinstance(thing, list) or len(thing) == 0:
        return False
    return all([is_stand(hall, stand) for stand in thing])


def covers(hall, plan, stands):
    """Tell whether each stand is no less than what the one ahead of it comes to, and the last one than its own."""
    # The last one stands behind itself, so that one comparison does for all.
    behind = stands[1:] + stands[-1:]
    return all([no_less(later, after_plan(hall, stand, plan)) for stand, later in zip(stands, behind)])


def lost_paper(hall, plan, thing):
    """Tell the paper of just what comes, or None where the thing is kept from some stand."""
    check_hall(hall)
    check_plan(hall, plan)
    check_thing(hall, thing)
    if thing in kept_from_some(hall, plan):
        return None
    return fall(hall, plan)


def lost_shown(hall, plan, thing, paper):
    """Tell whether anything is a paper that the thing is lost."""
    check_hall(hall)
    check_plan(hall, plan)
    check_thing(hall, thing)
    if not are_stands(hall, paper) or paper[0] != full(hall) or not covers(hall, plan, paper):
        return False
    return not known_throughout(walk_plan(hall, paper[-1], plan), thing)
