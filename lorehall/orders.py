"""What the orders of a beat's meetings do, and which stands a beat leads from."""

from lorehall.beats import after_beat
from lorehall.halls import check_beat, check_hall, check_meeting, check_stand
from lorehall.stands import all_stands, check_few


def all_orders(beat):
    """Tell all orders of the meetings of a beat, each one a beat."""
    found = [()]
    for meeting in beat:
        found = [
            order[:place] + (meeting,) + order[place:]
            for order in found
            for place in range(len(order) + 1)
        ]
    return found


def ends(hall, stand, beat):
    """Tell the stands to which the orders of the beat's meetings lead, rising."""
    check_hall(hall)
    check_stand(hall, stand)
    check_beat(hall, beat)
    return sorted({after_beat(hall, stand, order) for order in all_orders(beat)})


def are_free(hall, meeting, second):
    """Tell whether two meetings, as a beat, lead from each stand to the same in both orders."""
    check_hall(hall)
    check_meeting(hall, meeting)
    check_meeting(hall, second)
    check_few(hall)
    return all([
        after_beat(hall, stand, (meeting, second)) == after_beat(hall, stand, (second, meeting))
        for stand in all_stands(hall)
    ])


def ahead(hall, stand, beat):
    """Tell all stands that lead to the stand by the beat, rising."""
    check_hall(hall)
    check_stand(hall, stand)
    check_beat(hall, beat)
    check_few(hall)
    return [begin for begin in all_stands(hall) if after_beat(hall, begin, beat) == stand]
