"""The interface's opening section and [2]: which refusal for which argument, and which goes first."""

import copy
import itertools
import unittest

from lorehall.beats import by_beat, by_plan, comes_round
from lorehall.errors import LoreError, NoBeat, NoCount, NoHall, NoMeeting, NoPlan, NoStand, NoThing, TooMany
from lorehall.halls import bare, full, is_beat, is_hall, is_plan, is_stand
from lorehall.kept import can_be_kept, greatest, kept_from
from lorehall.least import least_from
from lorehall.lessons import is_shown, lessons
from lorehall.lost import lost_paper, lost_shown
from lorehall.orders import ahead, are_free, ends
from lorehall.plans import parted
from tests.helper import ANYTHING, FORTY_FIGURES, changed, written

ONE = ((), 1, 1, 1)
HALL = (3, (((), 1, 2, 1), ((0,), 2, 3, 0)))
STAND = ((2, 3), (1, 0), (0, 1))
BEAT = ((0, 1, 0), (2, 1, 1))
PLAN = (BEAT, (), ((1, 0, 0),))

NO_HALLS = ANYTHING + [(1, (ONE,)), (5, (ONE,)), (2, (ONE,) * 4), (True, (ONE,)), (2, (((0,), 1, 1, 1),))]
NO_STANDS = ANYTHING + [
    ((2, 3), (1, 0)), STAND + ((0, 0),), ((3, 3), (1, 0), (0, 1)), ((2, 4), (1, 0), (0, 1)),
    ((2, 3), (1, -1), (0, 1)), ((2, 3), (True, 0), (0, 1)), list(STAND), ((2, 3), [1, 0], (0, 1)),
]
NO_BEATS = [thing for thing in ANYTHING if written(thing) != "()"] + [
    ((0, 0, 0),), ((0, 3, 0),), ((0, 1, 2),), ((0, True, 0),), ((0, 1, 0),) * 5, list(BEAT),
]
NO_PLANS = [thing for thing in ANYTHING if written(thing) not in ("((),)", "((), ())")] + [
    BEAT, ((),) * 5, (((0, 1, 0),) * 5,), (((0, 0, 0),),), (BEAT, [], ()), list(PLAN),
]
NO_COUNTS = [thing for thing in ANYTHING if not isinstance(thing, int)] + [
    -1, 10 ** 18 + 1, FORTY_FIGURES, -FORTY_FIGURES, True, False,
]
NO_THINGS = [thing for thing in ANYTHING if not isinstance(thing, int)] + [
    2, 3, -1, 10 ** 18, FORTY_FIGURES, -FORTY_FIGURES, True, False,
]

NO_MEETINGS = [thing for thing in ANYTHING if written(thing) != "(0, 1, 0)"] + [
    (0, 0, 0), (0, 3, 0), (3, 0, 0), (-1, 0, 0), (0, -1, 0), (0, 1, 2), (0, 1, -1), (0, True, 0), (0, 1, True),
    (False, 1, 0), (0, 1), (0, 1, 0, 0), [0, 1, 0], ((0, 1, 0),), (0, 1, None), (0, 1, "0"), (0, 1, (0,)), BEAT,
]

HALLS = (HALL, NO_HALLS, NoHall)
STANDS = (STAND, NO_STANDS, NoStand)
BEATS = (BEAT, NO_BEATS, NoBeat)
PLANS = (PLAN, NO_PLANS, NoPlan)
COUNTS = (3, NO_COUNTS, NoCount)
THINGS = (1, NO_THINGS, NoThing)
MEETINGS = ((0, 1, 0), NO_MEETINGS, NoMeeting)
# What is asked about is never refused.
ASKED = (STAND, [], LoreError)

ASKERS = [
    (is_stand, [HALLS, ASKED]),
    (is_beat, [HALLS, ASKED]),
    (is_plan, [HALLS, ASKED]),
    (full, [HALLS]),
    (bare, [HALLS]),
    (by_beat, [HALLS, STANDS, BEATS]),
    (by_plan, [HALLS, STANDS, PLANS, COUNTS]),
    (comes_round, [HALLS, STANDS, PLANS]),
    (kept_from, [HALLS, STANDS, PLANS]),
    (can_be_kept, [HALLS, PLANS]),
    (greatest, [HALLS, PLANS]),
    (lost_paper, [HALLS, PLANS, THINGS]),
    (lost_shown, [HALLS, PLANS, THINGS, ASKED]),
    (least_from, [HALLS, PLANS, THINGS]),
    (lessons, [HALLS, STANDS, STANDS]),
    (is_shown, [HALLS, STANDS, STANDS, ASKED]),
    (ends, [HALLS, STANDS, BEATS]),
    (are_free, [HALLS, MEETINGS, MEETINGS]),
    (ahead, [HALLS, STANDS, BEATS]),
    (parted, [HALLS, PLANS, PLANS]),
]
# Those that look through all stands of a hall.
LOOKERS = [least_from, lessons, are_free, ahead, parted]


def is_right(hall, kind, thing):
    """Whether what is wrong of HALL is right of another hall."""
    if kind is NoHall:
        return is_hall(thing)
    if kind is NoThing:
        return type(thing) is int and thing in range(len(hall[1]))
    if kind is NoMeeting:
        return is_beat(hall, (thing,))
    return {NoStand: is_stand, NoBeat: is_beat, NoPlan: is_plan}[kind](hall, thing)


class TestRefusals(unittest.TestCase):
    def refused(self, kind, ask, *handed):
        try:
            told = ask(*handed)
        except LoreError as refusal:
            self.assertIs(type(refusal), kind, (ask.__name__, handed))
        else:
            self.fail((ask.__name__, handed, told))

    def test_nothing_is_refused_that_is_right(self):
        for ask, places in ASKERS:
            ask(*[good for good, _, _ in places])

    def test_each_alone(self):
        for ask, places in ASKERS:
            for at, (_, wrong, kind) in enumerate(places):
                for thing in wrong:
                    handed = [good for good, _, _ in places]
                    handed[at] = thing
                    self.refused(kind, ask, *handed)

    def test_the_first_goes_first(self):
        for ask, places in ASKERS:
            wrongs = [at for at, (_, wrong, _) in enumerate(places) if wrong]
            for many in range(1, len(wrongs) + 1):
                for chosen in itertools.combinations(wrongs, many):
                    for turn in range(60):
                        handed = [
                            wrong[(turn * (at + 3)) % len(wrong)] if at in chosen else good
                            for at, (good, wrong, _) in enumerate(places)
                        ]
                        self.refused(places[chosen[0]][2], ask, *handed)

    def test_all_wrong_alike(self):
        for thing in ANYTHING:
            for ask, places in ASKERS:
                self.refused(NoHall, ask, *[thing for _ in places])

    def test_changed_halls(self):
        for thing in changed(HALL):
            if not is_hall(thing):
                self.refused(NoHall, full, thing)
                self.refused(NoHall, by_beat, thing, STAND, BEAT)

    def test_a_stand_a_beat_or_a_plan_of_another_hall(self):
        other = (2, (ONE,))
        self.refused(NoStand, by_beat, other, STAND, BEAT)
        self.refused(NoBeat, by_beat, other, ((0,), (0,)), BEAT)
        self.refused(NoPlan, comes_round, other, ((0,), (0,)), PLAN)

    def test_counts_at_their_bounds(self):
        for beats in (0, 1, 10 ** 18):
            self.assertIs(is_stand(HALL, by_plan(HALL, STAND, PLAN, beats)), True)
        for beats in (-1, 10 ** 18 + 1):
            self.refused(NoCount, by_plan, HALL, STAND, PLAN, beats)

    def test_a_place_of_a_thing_at_its_bounds(self):
        for ask in (lost_paper, least_from, lambda *handed: lost_shown(*handed, [])):
            for many in (1, 2, 3):
                hall = (2, (ONE,) * many)
                for thing in range(many):
                    ask(hall, ((),), thing)
                for thing in (-1, many, many + 1, True, False, None, "0", (0,), [0], FORTY_FIGURES):
                    self.refused(NoThing, ask, hall, ((),), thing)

    def test_whatever_is_asked_about_is_not_refused(self):
        for thing in ANYTHING + NO_STANDS + NO_PLANS:
            for ask, handed in (
                (is_stand, (HALL, thing)), (is_beat, (HALL, thing)), (is_plan, (HALL, thing)),
                (lost_shown, (HALL, PLAN, 1, thing)), (lost_shown, (HALL, PLAN, 1, [thing])),
                (is_shown, (HALL, STAND, STAND, thing)), (is_shown, (HALL, STAND, STAND, (thing, thing))),
                (is_shown, (HALL, STAND, STAND, ("row", thing))), (is_shown, (HALL, STAND, STAND, ("row", [thing]))),
                (is_shown, (HALL, STAND, STAND, ("stay", thing))), (is_shown, (HALL, STAND, STAND, ("stay", (thing,)))),
            ):
                self.assertIs(type(ask(*handed)), bool, (ask.__name__, thing))

    def test_too_many_comes_behind_all_else(self):
        great = (4, (((), 1, 3, 1),) * 3)
        right = {NoHall: great, NoStand: full(great), NoBeat: BEAT, NoPlan: PLAN, NoThing: 0, NoMeeting: (3, 0, 2)}
        for ask, places in ASKERS:
            if ask not in LOOKERS:
                continue
            handed = [right[kind] for _, _, kind in places]
            self.refused(TooMany, ask, *handed)
            for at, (_, wrong, kind) in enumerate(places):
                for thing in wrong:
                    if not is_right(great, kind, thing):
                        self.refused(kind, ask, *handed[:at], thing, *handed[at + 1:])
                        self.refused(kind, ask, *handed[:at], *[thing for _ in places[at:]])

    def test_great_halls_are_refused_nowhere_else(self):
        great = (4, (((), 1, 3, 1),) * 3)
        self.assertEqual(can_be_kept(great, ((),)), [])
        self.assertEqual(kept_from(great, full(great), ((),)), [])
        self.assertEqual(greatest(great, ((),)), bare(great))
        self.assertEqual(len(lost_paper(great, ((),), 2)), 4)
        self.assertIs(lost_shown(great, ((),), 2, lost_paper(great, ((),), 2)), True)
        self.assertIs(is_shown(great, full(great), full(great), ("row", [])), True)
        self.assertIs(is_shown(great, bare(great), full(great), ("stay", bare(great))), True)
        self.assertEqual(ends(great, full(great), ()), [((2, 2, 2),) * 4])

    def test_refusing_changes_nothing_and_is_the_same_twice(self):
        for thing in ANYTHING + [list(STAND), list(PLAN), ([[0, 1, 0]],)]:
            before = copy.deepcopy(thing)
            text = written(thing)
            for kind, ask, handed in (
                (NoHall, full, (thing,)),
                (NoStand, by_beat, (HALL, thing, BEAT)),
            ):
                self.refused(kind, ask, *handed)
                self.refused(kind, ask, *handed)
            for ask, handed in (
                (is_hall, (thing,)), (is_stand, (HALL, thing)), (is_beat, (HALL, thing)), (is_plan, (HALL, thing)),
            ):
                self.assertIs(ask(*handed), ask(*handed))
            self.assertEqual(thing, before)
            self.assertEqual(written(thing), text)


if __name__ == "__main__":
    unittest.main()
