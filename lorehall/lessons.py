"""Lessons where nothing wanes: the fewest that bring a wish, or the stand that none changes."""

from lorehall.beats import is_lesson, learn
from lorehall.halls import check_hall, check_stand, is_meeting, is_stand
from lorehall.stands import check_few, no_less


def all_meetings(hall):
    """Tell all meetings of a hall, rising."""
    folk, things = hall
    return [
        (one, other, thing)
        for one in range(folk)
        for other in range(folk)
        if one != other
        for thing in range(len(things))
    ]


def after_meeting(hall, stand, meeting):
    """Tell the stand behind a meeting where nothing wanes."""
    folk, things = hall
    if not is_lesson(things, stand, meeting):
        return stand
    levels = [list(row) for row in stand]
    learn(things, levels, meeting)
    return tuple([tuple(row) for row in levels])


def after_row(hall, stand, meetings):
    """Tell the stand behind meetings that go one behind the other where nothing wanes."""
    for meeting in meetings:
        stand = after_meeting(hall, stand, meeting)
    return stand


def last_stand(hall, stand):
    """Tell the stand that lessons lead to, and which no meeting changes.

    No lesson makes another one impossible: so all orders lead to the same one,
    and it is no less than the stand behind any row.
    """
    meetings = all_meetings(hall)
    coming = after_row(hall, stand, meetings)
    while coming != stand:
        stand = coming
        coming = after_row(hall, stand, meetings)
    return stand


def one_meeting_more(hall, reached, rows):
    """Tell the stands that one meeting more leads to and no shorter row; note in rows the first row to each."""
    meetings = all_meetings(hall)
    found = []
    for stand in reached:
        for meeting in meetings:
            coming = after_meeting(hall, stand, meeting)
            if coming not in rows:
                rows[coming] = rows[stand] + [meeting]
                found.append(coming)
    return found


def first_row(hall, stand, wish):
    """Tell the first row of the fewest meetings that bring a wish which some row does bring."""
    rows = {stand: []}
    # The stands are reached in the order of their rows, so the first that will do has the first row.
    reached = [stand]
    while True:
        for coming in reached:
            if no_less(coming, wish):
                return rows[coming]
        reached = one_meeting_more(hall, reached, rows)


def is_row_to(hall, stand, wish, thing):
    """Tell whether thing is a list of meetings behind which the stand is no less than the wish."""
    if not isinstance(thing, list) or not all([is_meeting(hall, meeting) for meeting in thing]):
        return False
    return no_less(after_row(hall, stand, thing), wish)


def is_stay_below(hall, stand, wish, thing):
    """Tell whether thing is the stand that lessons lead to, and isn't no less than the wish."""
    # What merely equals a stand, by True for 1, is none.
    if not is_stand(hall, thing):
        return False
    return thing == last_stand(hall, stand) and not no_less(thing, wish)


def lessons(hall, stand, wish):
    """Tell ("row", meetings), the first row of the fewest that bring the wish, or ("stay", stand) where none does."""
    check_hall(hall)
    check_stand(hall, stand)
    check_stand(hall, wish)
    check_few(hall)
    last = last_stand(hall, stand)
    if not no_less(last, wish):
        return "stay", last
    return "row", first_row(hall, stand, wish)


def is_shown(hall, stand, wish, paper):
    """Tell whether anything shows that lessons bring the wish, or that none do."""
    check_hall(hall)
    check_stand(hall, stand)
    check_stand(hall, wish)
    if not isinstance(paper, tuple) or len(paper) != 2:
        return False
    word, shown = paper
    if word == "row":
        return is_row_to(hall, stand, wish, shown)
    return word == "stay" and is_stay_below(hall, stand, wish, shown)
