"""halls.py [4, 5]: what is a hall, a stand, a beat, a plan; the full and the bare stand."""

import unittest

from lorehall.halls import bare, full, is_beat, is_hall, is_plan, is_stand
from tests.helper import (
    ANYTHING, FORTY_FIGURES, all_beats, all_halls, all_stands, changed, samples, written,
)

ONE = ((), 1, 1, 1)
HALL = (3, (((), 1, 2, 1), ((0,), 2, 3, 0)))
SMALL = (2, (((), 1, 1, 1), ((0,), 1, 2, 1)))


def hall_of(*things):
    return (2, things)


class TestIsHall(unittest.TestCase):
    def yes(self, thing):
        self.assertIs(is_hall(thing), True, thing)

    def no(self, thing):
        self.assertIs(is_hall(thing), False, thing)

    def test_every_hall_is_one(self):
        for hall in all_halls():
            if is_hall(hall) is not True:
                self.fail(hall)

    def test_changed_halls_are_judged_as_listed(self):
        halls = {written(hall) for hall in all_halls()}
        for hall in [
            HALL, SMALL, (4, (ONE,)), (2, (ONE, ((), 3, 3, 3), ((0, 1), 2, 3, 0))),
            (3, (ONE, ((0,), 1, 2, 2), ((1,), 2, 2, 1))),
        ]:
            for thing in changed(hall):
                self.assertIs(is_hall(thing), written(thing) in halls, thing)

    def test_folk(self):
        for folk in (2, 3, 4):
            self.yes((folk, (ONE,)))
        for folk in (1, 5, 0, -2, FORTY_FIGURES, True, False, None, "2", (2,), [2]):
            self.no((folk, (ONE,)))

    def test_how_many_things(self):
        for many in (1, 2, 3):
            self.yes((2, (ONE,) * many))
        for many in (0, 4, 5):
            self.no((2, (ONE,) * many))

    def test_cap(self):
        for cap in (1, 2, 3):
            self.yes(hall_of(((), 1, cap, 0)))
        for cap in (0, 4, -1, FORTY_FIGURES, True, False, None, "1"):
            self.no(hall_of(((), 1, cap, 0)))

    def test_teach(self):
        for cap in (1, 2, 3):
            self.yes(hall_of(((), 1, cap, 0)))
            self.yes(hall_of(((), cap, cap, 0)))
            for teach in (0, -1, cap + 1, FORTY_FIGURES, True, None, "1"):
                self.no(hall_of(((), teach, cap, 0)))

    def test_loss(self):
        for cap in (1, 2, 3):
            self.yes(hall_of(((), 1, cap, 0)))
            self.yes(hall_of(((), 1, cap, cap)))
            for loss in (-1, cap + 1, FORTY_FIGURES, True, False, None, "0"):
                self.no(hall_of(((), 1, cap, loss)))

    def test_needs(self):
        for needs in ((), (0,), (1,), (0, 1)):
            self.yes(hall_of(ONE, ONE, (needs, 1, 1, 1)))
        for needs in (
            (1, 0), (0, 0), (1, 1), (2,), (3,), (0, 2), (0, 1, 2), (-1,), (-1, 0),
            (True,), (False,), (0, True), (None,), ("0",), ((0,),), (FORTY_FIGURES,),
            [], [0], 0, None, "", "0", False,
        ):
            self.no(hall_of(ONE, ONE, (needs, 1, 1, 1)))
        for needs in ((0,), (1,), (-1,), (False,)):
            self.no(hall_of((needs, 1, 1, 1)))
        self.no(hall_of(ONE, ((1,), 1, 1, 1), ONE))

    def test_lists_are_no_tuples(self):
        self.no([2, (ONE,)])
        self.no((2, [ONE]))
        self.no((2, (list(ONE),)))
        self.no((2, (([], 1, 1, 1),)))

    def test_too_short_and_too_long(self):
        self.no(())
        self.no((2,))
        self.no((2, (ONE,), ()))
        self.no(hall_of(((), 1, 1)))
        self.no(hall_of(((), 1, 1, 1, 1)))

    def test_anything(self):
        for thing in ANYTHING:
            self.no(thing)


class TestIsStand(unittest.TestCase):
    def test_every_stand_is_one(self):
        for hall in (SMALL, HALL, (4, (((), 3, 3, 2),))):
            for stand in all_stands(hall):
                self.assertIs(is_stand(hall, stand), True, stand)

    def test_changed_stands_are_judged_as_listed(self):
        for hall in (SMALL, HALL, (2, (((), 1, 3, 0),)), (2, (((), 1, 1, 0),))):
            stands = all_stands(hall)
            texts = {written(stand) for stand in stands}
            for stand in (stands[0], stands[len(stands) // 2], stands[-1]):
                for thing in changed(stand):
                    self.assertIs(is_stand(hall, thing), written(thing) in texts, thing)

    def test_each_level_goes_to_the_cap_of_its_own_thing(self):
        hall = (2, (((), 1, 1, 0), ((), 1, 3, 0), ((), 1, 2, 0)))
        self.assertIs(is_stand(hall, ((1, 3, 2), (1, 3, 2))), True)
        for row in ((2, 3, 2), (1, 4, 2), (1, 3, 3), (-1, 3, 2), (1, -1, 2), (1, 3, -1)):
            self.assertIs(is_stand(hall, ((1, 3, 2), row)), False, row)
            self.assertIs(is_stand(hall, (row, (1, 3, 2))), False, row)

    def test_truths_are_no_levels(self):
        for truth in (True, False):
            self.assertIs(is_stand((2, (ONE,)), ((truth,), (0,))), False)
            self.assertIs(is_stand((2, (ONE,)), ((0,), (truth,))), False)

    def test_too_few_and_too_many(self):
        hall = (3, (ONE, ONE))
        row = (0, 1)
        self.assertIs(is_stand(hall, (row,) * 3), True)
        for thing in ((row,) * 2, (row,) * 4, (), ((0,),) * 3, ((0, 1, 0),) * 3, ((),) * 3):
            self.assertIs(is_stand(hall, thing), False, thing)

    def test_lists_are_no_tuples(self):
        for thing in ([(0,), (0,)], ([0], [0]), ((0,), [0])):
            self.assertIs(is_stand((2, (ONE,)), thing), False, thing)

    def test_anything(self):
        for thing in ANYTHING:
            self.assertIs(is_stand((3, (ONE, ONE)), thing), False, thing)


class TestIsBeat(unittest.TestCase):
    def test_every_beat_is_one(self):
        for hall in (SMALL, (2, (ONE,))):
            for beat in all_beats(hall, 4):
                self.assertIs(is_beat(hall, beat), True, beat)

    def test_changed_beats_are_judged_as_listed(self):
        for hall in (SMALL, (2, (ONE,))):
            beats = all_beats(hall, 4)
            texts = {written(beat) for beat in beats}
            for beat in beats[:5] + beats[-5:]:
                for thing in changed(beat):
                    self.assertIs(is_beat(hall, thing), written(thing) in texts, thing)

    def test_how_many_meetings(self):
        for many in range(7):
            self.assertIs(is_beat(HALL, ((0, 1, 0),) * many), many <= 4, many)

    def test_folk_and_things_at_their_bounds(self):
        for folk in (2, 3, 4):
            for many in (1, 2, 3):
                hall = (folk, (ONE,) * many)
                self.assertIs(is_beat(hall, ((0, folk - 1, many - 1),)), True)
                self.assertIs(is_beat(hall, ((folk - 1, 0, 0),)), True)
                for meeting in (
                    (0, folk, 0), (folk, 0, 0), (0, 1, many), (-1, 0, 0), (0, -1, 0), (0, 1, -1),
                    (FORTY_FIGURES, 0, 0), (0, FORTY_FIGURES, 0), (0, 1, FORTY_FIGURES),
                ):
                    self.assertIs(is_beat(hall, (meeting,)), False, (hall, meeting))
                    self.assertIs(is_beat(hall, ((0, 1, 0), meeting)), False, (hall, meeting))

    def test_one_and_other_are_unlike(self):
        for who in range(3):
            self.assertIs(is_beat(HALL, ((who, who, 0),)), False)

    def test_truths_are_no_numbers(self):
        for meeting in ((0, True, 0), (True, 0, 0), (False, 1, 0), (1, False, 0), (0, 1, False), (0, 1, True)):
            self.assertIs(is_beat(HALL, (meeting,)), False, meeting)

    def test_lists_and_lengths(self):
        for thing in ([], [(0, 1, 0)], ([0, 1, 0],), ((0, 1),), ((0, 1, 0, 0),), (0, 1, 0), ((),)):
            self.assertIs(is_beat(HALL, thing), False, thing)

    def test_anything(self):
        for thing in ANYTHING:
            self.assertIs(is_beat(HALL, thing), thing == () and isinstance(thing, tuple), thing)


class TestIsPlan(unittest.TestCase):
    def test_plans_are_plans(self):
        for hall, _, plan in samples(1, 400):
            self.assertIs(is_plan(hall, plan), True, (hall, plan))

    def test_changed_plans_are_judged_as_listed(self):
        texts = {written(beat) for beat in all_beats(SMALL, 4)}
        plans = [((),), (((0, 1, 0),), ((1, 0, 1), (0, 1, 1))), ((), ((0, 1, 1),) * 4, (), ((1, 0, 0),))]
        for plan in plans:
            for thing in changed(plan):
                due = isinstance(thing, tuple) and 1 <= len(thing) <= 4
                due = due and all(written(beat) in texts for beat in thing)
                self.assertIs(is_plan(SMALL, thing), due, thing)

    def test_how_many_beats(self):
        for beat in ((), ((0, 1, 0),)):
            for many in range(7):
                self.assertIs(is_plan(HALL, (beat,) * many), 1 <= many <= 4, many)

    def test_how_many_meetings(self):
        for many in range(7):
            self.assertIs(is_plan(HALL, ((), ((0, 1, 0),) * many)), many <= 4, many)

    def test_lists_are_no_tuples(self):
        for thing in ([()], ([],), ([(0, 1, 0)],), (([0, 1, 0],),)):
            self.assertIs(is_plan(HALL, thing), False, thing)

    def test_anything(self):
        plans = {written(((),)), written(((), ()))}
        for thing in ANYTHING:
            self.assertIs(is_plan(HALL, thing), written(thing) in plans, thing)


class TestFullAndBare(unittest.TestCase):
    def test_unlike_caps(self):
        hall = (3, (((), 1, 1, 0), ((0,), 2, 3, 1), ((), 1, 2, 2)))
        self.assertEqual(full(hall), ((1, 3, 2), (1, 3, 2), (1, 3, 2)))
        self.assertEqual(bare(hall), ((0, 0, 0), (0, 0, 0), (0, 0, 0)))

    def test_one_thing_two_folk(self):
        self.assertEqual(full((2, (((), 1, 2, 0),))), ((2,), (2,)))
        self.assertEqual(bare((2, (((), 1, 2, 0),))), ((0,), (0,)))

    def test_they_are_the_greatest_and_the_least_stand(self):
        for hall, _, _ in samples(2, 300):
            folk, things = hall
            self.assertEqual(full(hall), tuple(tuple(cap for _, _, cap, _ in things) for _ in range(folk)))
            self.assertEqual(bare(hall), tuple(tuple(0 for _ in things) for _ in range(folk)))
            self.assertIs(is_stand(hall, full(hall)), True)
            self.assertIs(is_stand(hall, bare(hall)), True)


if __name__ == "__main__":
    unittest.main()
