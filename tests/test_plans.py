"""plans.py [3, 13]: whether two plans do the same from all stands, or the fewest beats by which they part."""

import itertools
import random
import unittest

from lorehall.beats import by_beat, by_plan, comes_round
from lorehall.errors import LoreError, NoHall, NoPlan, TooMany
from lorehall.halls import bare, is_stand
from lorehall.kept import can_be_kept, greatest, kept_from
from lorehall.least import least_from
from lorehall.orders import are_free
from lorehall.plans import parted
from tests.helper import (
    all_meetings, all_stands, halls_of_all_sizes, how_many, samples, slow_parted, slow_walk, some_beat, some_hall,
    some_plan, written,
)

SMALL = {"most_folk": 2, "most_things": 2, "most_cap": 2}
MIDDLE = {"most_folk": 3, "most_things": 2, "most_cap": 2}
GREAT = (4, (((), 1, 3, 1),) * 3)
TEACH = ((0, 1, 0),)


def near_plans(seed, many, **bounds):
    """So many (hall, one, other), the plans made of a few beats, so that many part late or never."""
    chance = random.Random(seed)
    found = []
    while len(found) < many:
        hall = some_hall(chance, **bounds)
        if how_many(hall) <= 2000:
            beat = some_beat(chance, hall)
            beats = [beat, beat, beat, tuple(reversed(beat)), beat[:1], some_beat(chance, hall)]
            one, other = [tuple(chance.choice(beats) for _ in range(chance.randint(1, 4))) for _ in range(2)]
            found.append((hall, one, other))
    return found


class TestParted(unittest.TestCase):
    def check(self, hall, one, other, due):
        self.assertEqual(parted(hall, one, other), due, (hall, one, other))
        self.assertEqual(parted(hall, other, one), due, (hall, other, one))

    def test_at_the_first_beat(self):
        hall = (2, (((), 1, 2, 1),))
        # The first stand from which the one teaches is that where nobody else knows anything.
        self.check(hall, (TEACH,), ((),), (1, ((1,), (0,))))
        self.check(hall, (TEACH,), (((1, 0, 0),),), (1, ((0,), (1,))))

    def test_the_first_stand_of_those_that_part_as_soon(self):
        hall = (2, (((), 2, 2, 0),))
        parting = [stand for stand in all_stands(hall) if by_beat(hall, stand, TEACH) != by_beat(hall, stand, ())]
        self.assertEqual(parting, [((2,), (0,)), ((2,), (1,))])
        self.check(hall, (TEACH,), ((),), (1, ((2,), (0,))))

    def test_the_same_plan_and_the_plan_more_than_once(self):
        for hall, _, plan in samples(401, 40, **MIDDLE):
            self.check(hall, plan, plan, None)
            if len(plan) <= 2:
                self.check(hall, plan, plan * 2, None)
            if len(plan) == 1:
                self.check(hall, plan, plan * 3, None)
                self.check(hall, plan * 3, plan * 4, None)

    def test_other_meetings_that_do_the_same(self):
        hall = (3, (((), 2, 2, 1),))
        there, back = (0, 1, 0), (1, 0, 0)
        self.check(hall, ((there, back),), ((back, there),), None)
        self.check(hall, ((there, there),), ((there, there, there),), None)
        self.check(hall, ((there,), (there, back)), ((there,), (back, there)), None)

    def test_a_later_beat(self):
        hall = (2, (((), 1, 3, 1),))
        for many in range(4):
            self.check(hall, (TEACH,) * many + (TEACH,), (TEACH,) * many + ((),), (many + 1, ((1,), (0,))))

    def test_plans_of_unlike_lengths(self):
        hall = (2, (((), 1, 1, 1),))
        # Alike at their first beats, and apart where the one begins anew and the other one goes on.
        self.check(hall, (TEACH, TEACH), (TEACH, TEACH, ()), (3, ((1,), (0,))))
        self.check(hall, (TEACH, TEACH, TEACH), (TEACH, TEACH, TEACH, ()), (4, ((1,), (0,))))
        self.check(hall, (TEACH,), (TEACH, TEACH, TEACH, ()), (4, ((1,), (0,))))

    def test_later_than_either_plan_is_long(self):
        hall = (2, (((), 1, 3, 1),))
        self.check(hall, (TEACH, (), TEACH), (TEACH, (), TEACH, TEACH), (5, ((2,), (0,))))
        self.check(hall, (TEACH, TEACH, ()), (TEACH, TEACH, (), TEACH), (6, ((2,), (0,))))
        hall = (2, (((), 1, 3, 0),))
        self.check(hall, ((), (), TEACH), ((), (), TEACH, ()), (6, ((1,), (0,))))
        threes = itertools.product((TEACH, ()), repeat=3)
        fours = itertools.product((TEACH, ()), repeat=4)
        for one, other in itertools.product(threes, fours):
            self.check(hall, one, other, slow_parted(hall, one, other))

    def test_what_wanes_at_once_hides_a_later_beat(self):
        # Nobody knows it any more when the plans differ.
        hall = (2, (((), 1, 1, 1),))
        self.check(hall, ((), TEACH), ((), ()), None)
        self.check(hall, (TEACH, ()), ((), ()), (1, ((1,), (0,))))
        hall = (2, (((), 1, 2, 1),))
        self.check(hall, ((), TEACH), ((), ()), (2, ((2,), (0,))))
        self.check(hall, ((), (), TEACH), ((), (), ()), None)

    def test_against_walking(self):
        late = []
        for hall, one, other in near_plans(402, 400, **MIDDLE):
            due = slow_parted(hall, one, other)
            self.check(hall, one, other, due)
            late.append(due and due[0])
        for beats in (None, 1, 2, 3, 4):
            self.assertGreater(late.count(beats), 2, beats)

    def test_plans_of_chance(self):
        chance = random.Random(403)
        for hall, _, plan in samples(404, 150, **SMALL):
            other = some_plan(chance, hall)
            self.check(hall, plan, other, slow_parted(hall, plan, other))

    def test_great_halls(self):
        for hall, one, other in near_plans(405, 12, most_folk=4, most_things=3):
            told = parted(hall, one, other)
            self.assertEqual(told, slow_parted(hall, one, other), (hall, one, other))

    def test_the_told_beginning_parts_them_and_none_sooner(self):
        for hall, one, other in near_plans(406, 150, **SMALL):
            told = parted(hall, one, other)
            beats = 30 if told is None else told[0]
            for stand in all_stands(hall):
                by_one = slow_walk(hall, stand, one, beats)
                by_other = slow_walk(hall, stand, other, beats)
                self.assertEqual(by_one[:-1], by_other[:-1], (hall, one, other, stand))
                if told is None or stand < told[1]:
                    self.assertEqual(by_one[-1], by_other[-1], (hall, one, other, stand))
                elif stand == told[1]:
                    self.assertNotEqual(by_one[-1], by_other[-1], (hall, one, other, stand))

    def test_kinds(self):
        nones = 0
        for hall, one, other in near_plans(407, 150, **SMALL):
            told = parted(hall, one, other)
            if told is None:
                nones += 1
                continue
            self.assertEqual((type(told), len(told)), (tuple, 2))
            self.assertIs(type(told[0]), int)
            self.assertGreaterEqual(told[0], 1)
            self.assertIs(is_stand(hall, told[1]), True)
        self.assertGreater(nones, 20)


class TestWhole(unittest.TestCase):
    """[3]: what is told of two plans holds together with all else that is told."""

    def test_plans_that_are_alike_are_alike_in_all(self):
        alike = 0
        for hall, one, other in near_plans(411, 400, **SMALL):
            if parted(hall, one, other) is not None or one == other:
                continue
            alike += 1
            self.assertEqual(can_be_kept(hall, one), can_be_kept(hall, other), (hall, one, other))
            for thing in range(len(hall[1])):
                self.assertEqual(least_from(hall, one, thing), least_from(hall, other, thing), (hall, one, other))
            both = len(one) * len(other)
            self.assertEqual(
                by_plan(hall, greatest(hall, one), other, both), greatest(hall, one), (hall, one, other),
            )
            for stand in all_stands(hall)[::4]:
                self.assertEqual(kept_from(hall, stand, one), kept_from(hall, stand, other))
                for beats in (1, 2, 3, 11, 12, 10 ** 18 - 1, 10 ** 18):
                    self.assertEqual(by_plan(hall, stand, one, beats), by_plan(hall, stand, other, beats))
                if len(one) == len(other):
                    self.assertEqual(comes_round(hall, stand, one), comes_round(hall, stand, other))
        self.assertGreater(alike, 40)

    def test_two_meetings_are_free_just_where_their_two_beats_are_alike(self):
        for hall, _, _ in samples(412, 40, **MIDDLE):
            meetings = all_meetings(hall)
            for meeting, second in zip(meetings, meetings[1:] + meetings[:1]):
                told = parted(hall, ((meeting, second),), ((second, meeting),))
                self.assertIs(are_free(hall, meeting, second), told is None, (hall, meeting, second))

    def test_what_parts_two_plans_is_seen_by_walking(self):
        for hall, one, other in near_plans(413, 200, **MIDDLE):
            told = parted(hall, one, other)
            if told is not None:
                beats, stand = told
                self.assertNotEqual(by_plan(hall, stand, one, beats), by_plan(hall, stand, other, beats))
                self.assertEqual(by_plan(hall, stand, one, beats - 1), by_plan(hall, stand, other, beats - 1))


class TestTooMany(unittest.TestCase):
    def refused(self, kind, *handed):
        with self.assertRaises(LoreError) as caught:
            parted(*handed)
        self.assertIs(type(caught.exception), kind, handed)
        return caught.exception

    def test_halls_of_all_sizes(self):
        for hall in halls_of_all_sizes():
            if how_many(hall) > 2000:
                for other in (((),), (TEACH,)):
                    refusal = self.refused(TooMany, hall, (TEACH,), other)
                    self.assertEqual((type(refusal.most), refusal.most), (int, 2000))
            else:
                first = ((1,) + bare(hall)[0][1:],) + bare(hall)[1:]
                self.assertEqual(parted(hall, (TEACH,), (TEACH,)), None)
                self.assertEqual(parted(hall, (TEACH,), ((),)), (1, first), hall)

    def test_other_refusals_go_ahead(self):
        self.refused(TooMany, GREAT, ((),), ((),))
        self.refused(NoPlan, GREAT, ((),), ())
        self.refused(NoPlan, GREAT, (), ((),))
        self.refused(NoPlan, GREAT, None, None)
        self.refused(NoHall, list(GREAT), ((),), ((),))
        self.refused(NoHall, None, None, None)


class TestOwn(unittest.TestCase):
    """[2]: nothing that is handed in is changed."""

    def test_nothing_changed_and_twice_the_same(self):
        for hall, one, other in near_plans(421, 80, **SMALL):
            text = written((hall, one, other))
            self.assertEqual(written(parted(hall, one, other)), written(parted(hall, one, other)))
            self.assertEqual(written((hall, one, other)), text)


if __name__ == "__main__":
    unittest.main()
