"""beats.py [3, 6]: a beat, many beats of a plan, and when all comes round."""

import random
import unittest

from lorehall.beats import by_beat, by_plan, comes_round
from lorehall.halls import bare, full, is_stand
from tests.helper import (
    all_beats, all_stands, no_less, samples, slow_beat, slow_round, slow_walk, some_beat, some_hall,
    some_less, some_stand, written,
)

FAR = 10 ** 18


class TestByBeat(unittest.TestCase):
    def check(self, hall, stand, beat, due):
        self.assertEqual(by_beat(hall, stand, beat), due, (hall, stand, beat))

    def test_a_lesson_raises_the_other_one_by_one(self):
        hall = (3, (((), 2, 3, 0),))
        self.check(hall, ((2,), (0,), (0,)), ((0, 1, 0),), ((2,), (1,), (0,)))
        self.check(hall, ((3,), (1,), (0,)), ((0, 1, 0),), ((3,), (2,), (0,)))
        self.check(hall, ((0,), (0,), (2,)), ((2, 0, 0),), ((1,), (0,), (2,)))

    def test_no_lesson_for_want_of_teach(self):
        hall = (2, (((), 2, 3, 1),))
        self.check(hall, ((1,), (1,)), ((0, 1, 0),), ((0,), (0,)))
        self.check(hall, ((0,), (3,)), ((0, 1, 0),), ((0,), (2,)))
        self.check(hall, ((2,), (1,)), ((0, 1, 0),), ((2,), (2,)))

    def test_no_lesson_for_want_of_a_need(self):
        hall = (2, (((), 1, 3, 0), ((), 1, 3, 0), ((0, 1), 1, 3, 1)))
        beat = ((0, 1, 2),)
        self.check(hall, ((0, 0, 3), (0, 0, 1)), beat, ((0, 0, 2), (0, 0, 0)))
        self.check(hall, ((0, 0, 3), (1, 0, 1)), beat, ((0, 0, 2), (1, 0, 0)))
        self.check(hall, ((0, 0, 3), (0, 1, 1)), beat, ((0, 0, 2), (0, 1, 0)))
        # Who teaches needs nothing but the thing itself; who learns knows from level 1 on.
        self.check(hall, ((0, 0, 3), (1, 1, 1)), beat, ((0, 0, 3), (1, 1, 2)))
        self.check(hall, ((1, 1, 3), (0, 0, 1)), beat, ((1, 1, 2), (0, 0, 0)))

    def test_needs_hang_only_on_what_the_thing_itself_names(self):
        hall = (2, (((), 1, 1, 0), ((0,), 1, 1, 0), ((1,), 1, 1, 0)))
        self.check(hall, ((0, 0, 1), (0, 1, 0)), ((0, 1, 2),), ((0, 0, 1), (0, 1, 1)))

    def test_the_level_stays_at_its_cap_and_is_used(self):
        for cap in (1, 2, 3):
            hall = (2, (((), 1, cap, 1),))
            self.check(hall, ((cap,), (cap,)), ((0, 1, 0),), ((cap,), (cap,)))
            self.check(hall, ((cap,), (cap,)), ((0, 1, 0),) * 4, ((cap,), (cap,)))

    def test_the_same_lesson_again_in_a_beat(self):
        hall = (2, (((), 1, 3, 1),))
        for many, level in ((1, 1), (2, 2), (3, 3), (4, 3)):
            self.check(hall, ((1,), (0,)), ((0, 1, 0),) * many, ((1,), (level,)))

    def test_a_lesson_stands_on_an_earlier_one_of_the_beat(self):
        hall = (3, (((), 1, 2, 2), ((0,), 1, 2, 2)))
        stand = ((1, 1), (0, 0), (0, 0))
        self.check(hall, stand, ((0, 1, 0), (0, 1, 1)), ((1, 1), (1, 1), (0, 0)))
        self.check(hall, stand, ((0, 1, 1), (0, 1, 0)), ((1, 0), (1, 0), (0, 0)))
        self.check(hall, stand, ((0, 1, 0), (1, 2, 0)), ((1, 0), (1, 0), (1, 0)))
        self.check(hall, stand, ((1, 2, 0), (0, 1, 0)), ((1, 0), (1, 0), (0, 0)))

    def test_waning_comes_behind_all_meetings(self):
        hall = (3, (((), 1, 1, 1),))
        self.check(hall, ((1,), (0,), (0,)), ((1, 2, 0), (0, 2, 0), (2, 1, 0)), ((1,), (1,), (1,)))

    def test_both_have_used_the_thing_and_all_else_wanes(self):
        hall = (3, (((), 1, 3, 1), ((), 1, 3, 2), ((), 1, 3, 0)))
        stand = ((3, 3, 3), (2, 2, 2), (1, 1, 1))
        self.check(hall, stand, ((0, 1, 0),), ((3, 1, 3), (3, 0, 2), (0, 0, 1)))
        self.check(hall, stand, ((2, 0, 1),), ((2, 3, 3), (1, 0, 2), (0, 1, 1)))

    def test_what_is_used_at_one_beat_is_not_used_at_the_next(self):
        hall = (2, (((), 1, 2, 1),))
        self.assertEqual(by_plan(hall, ((2,), (0,)), (((0, 1, 0),), ()), 2), ((1,), (0,)))

    def test_a_meeting_that_is_no_lesson_uses_nothing(self):
        hall = (2, (((), 3, 3, 3),))
        self.check(hall, ((2,), (3,)), ((0, 1, 0),), ((0,), (0,)))
        # Behind a lesson a meeting that is none takes nothing back.
        self.check(hall, ((2,), (3,)), ((1, 0, 0), (1, 0, 0)), ((3,), (3,)))
        self.check(hall, ((3,), (0,)), ((0, 1, 0), (1, 0, 0)), ((3,), (1,)))

    def test_no_meetings(self):
        hall = (2, (((), 1, 3, 0), ((), 1, 3, 1), ((), 1, 3, 3)))
        self.check(hall, ((3, 3, 3), (1, 1, 1)), (), ((3, 2, 0), (1, 0, 0)))
        self.check(hall, bare(hall), (), bare(hall))

    def test_zero_at_least(self):
        hall = (2, (((), 1, 3, 2),))
        self.check(hall, ((1,), (0,)), (), ((0,), (0,)))

    def test_all_stands_and_beats_of_a_small_hall(self):
        hall = (2, (((), 1, 2, 1), ((0,), 2, 2, 1)))
        for beat in all_beats(hall, 2):
            for stand in all_stands(hall):
                self.check(hall, stand, beat, slow_beat(hall, stand, beat))

    def test_against_the_slow_beat(self):
        for hall, stand, plan in samples(11, 4000):
            for beat in plan:
                self.check(hall, stand, beat, slow_beat(hall, stand, beat))

    def test_a_stand_is_told(self):
        for hall, stand, plan in samples(12, 300):
            told = by_beat(hall, stand, plan[0])
            self.assertIs(is_stand(hall, told), True, told)


class TestNeverLess(unittest.TestCase):
    """[3]: who begins with no less, each of each thing, never comes to less."""

    def test_all_pairs_of_a_small_hall(self):
        hall = (2, (((), 1, 2, 1), ((0,), 2, 2, 1)))
        stands = all_stands(hall)
        pairs = [(more, less) for more in stands for less in stands if no_less(more, less)]
        for beat in all_beats(hall, 1) + all_beats(hall, 2)[-12:]:
            told = {stand: by_beat(hall, stand, beat) for stand in stands}
            for more, less in pairs:
                self.assertTrue(no_less(told[more], told[less]), (more, less, beat))

    def test_plans_from_more_and_less(self):
        chance = random.Random(13)
        for hall, stand, plan in samples(14, 500):
            less = some_less(chance, stand)
            for beats in (0, 1, 2, 3, 5, 8, 13, FAR):
                more_told = by_plan(hall, stand, plan, beats)
                less_told = by_plan(hall, less, plan, beats)
                self.assertTrue(no_less(more_told, less_told), (hall, stand, less, plan, beats))
                self.assertTrue(no_less(by_plan(hall, full(hall), plan, beats), more_told))
                self.assertTrue(no_less(less_told, by_plan(hall, bare(hall), plan, beats)))


def far_by_squares(hall, plan, rounds):
    """Of each stand, what it comes to by so many rounds of the plan: tables put behind one another."""
    table = {stand: slow_walk(hall, stand, plan, len(plan))[-1] for stand in all_stands(hall)}
    told = {stand: stand for stand in table}
    while rounds:
        if rounds & 1:
            told = {stand: table[told[stand]] for stand in told}
        table = {stand: table[table[stand]] for stand in table}
        rounds >>= 1
    return told


class TestByPlan(unittest.TestCase):
    hall = (2, (((), 1, 3, 1),))

    def test_no_beats(self):
        for hall, stand, plan in samples(21, 200):
            self.assertEqual(by_plan(hall, stand, plan, 0), stand)

    def test_beats_come_in_order_and_the_first_again_behind_the_last(self):
        plan = (((0, 1, 0), (1, 0, 0)), (), ())
        dues = [((2,), (0,)), ((3,), (1,)), ((2,), (0,)), ((1,), (0,)), ((2,), (1,)), ((1,), (0,)), ((0,), (0,))]
        for beats, due in enumerate(dues):
            self.assertEqual(by_plan(self.hall, ((2,), (0,)), plan, beats), due, beats)

    def test_a_round_that_goes_on_for_ever(self):
        plan = (((0, 1, 0), (1, 0, 0)), ())
        for beats in (0, 2, 100, FAR, FAR - 2):
            self.assertEqual(by_plan(self.hall, ((1,), (1,)), plan, beats), ((1,), (1,)))
        for beats in (1, 3, 101, FAR - 1):
            self.assertEqual(by_plan(self.hall, ((1,), (1,)), plan, beats), ((2,), (2,)))

    def test_one_beat_is_by_beat(self):
        for hall, stand, plan in samples(22, 300):
            self.assertEqual(by_plan(hall, stand, plan, 1), by_beat(hall, stand, plan[0]))

    def test_against_walking(self):
        for hall, stand, plan in samples(23, 300):
            walked = slow_walk(hall, stand, plan, 120)
            for beats in list(range(24)) + [60, 61, 62, 63, 97, 120]:
                self.assertEqual(by_plan(hall, stand, plan, beats), walked[beats], (hall, stand, plan, beats))

    def test_a_long_way_to_the_round(self):
        hall = (4, (((), 3, 3, 0), ((0,), 3, 3, 0), ((1,), 3, 3, 0)))
        plan = (
            ((2, 1, 1), (3, 0, 0), (0, 3, 2), (1, 3, 0)),
            ((0, 3, 2),),
            ((2, 0, 2), (3, 2, 2), (0, 2, 1), (3, 1, 1)),
            ((1, 3, 2), (0, 2, 0), (1, 3, 1), (0, 3, 0)),
        )
        stand = ((0, 3, 0), (3, 0, 3), (0, 0, 0), (0, 0, 0))
        walked = slow_walk(hall, stand, plan, 200)
        self.assertEqual(comes_round(hall, stand, plan), (83, 4))
        for beats, due in enumerate(walked):
            self.assertEqual(by_plan(hall, stand, plan, beats), due, beats)

    def test_far_beats_against_tables(self):
        for hall, _, plan in samples(24, 60, most_folk=2, most_things=2, most_cap=2):
            far = FAR - FAR % len(plan)
            told = far_by_squares(hall, plan, far // len(plan))
            for stand in list(told)[::7] + [full(hall)]:
                self.assertEqual(by_plan(hall, stand, plan, far), told[stand], (hall, stand, plan))
                rest = slow_walk(hall, told[stand], plan, FAR - far)[-1]
                self.assertEqual(by_plan(hall, stand, plan, FAR), rest, (hall, stand, plan))

    def test_parted_in_two_at_a_whole_plan(self):
        chance = random.Random(25)
        for hall, stand, plan in samples(26, 300):
            for most in (3, 20, FAR // 8):
                whole = chance.randint(0, most) * len(plan)
                rest = chance.randint(0, 2 * most)
                middle = by_plan(hall, stand, plan, whole)
                self.assertEqual(
                    by_plan(hall, stand, plan, whole + rest), by_plan(hall, middle, plan, rest),
                    (hall, stand, plan, whole, rest),
                )


class TestComesRound(unittest.TestCase):
    hall = (2, (((), 1, 2, 1),))

    def test_what_wanes_away(self):
        self.assertEqual(comes_round(self.hall, ((2,), (0,)), ((),)), (2, 1))
        self.assertEqual(comes_round(self.hall, ((2,), (0,)), ((), ())), (2, 2))
        self.assertEqual(comes_round(self.hall, ((1,), (0,)), ((), ())), (1, 2))
        self.assertEqual(comes_round(self.hall, ((0,), (0,)), ((), (), (), ())), (0, 4))

    def test_what_comes_again_at_another_beat_is_not_enough(self):
        # The stands are ((2,), (0,)), ((2,), (1,)), ((1,), (0,)), ((1,), (1,)), bare, bare, bare ..
        self.assertEqual(comes_round(self.hall, ((2,), (0,)), (((0, 1, 0),), ())), (4, 2))

    def test_at_once(self):
        hall = (2, (((), 1, 3, 1),))
        self.assertEqual(comes_round(hall, ((1,), (1,)), (((0, 1, 0), (1, 0, 0)), ())), (0, 2))
        self.assertEqual(comes_round(hall, ((2,), (2,)), ((), ((0, 1, 0), (1, 0, 0)))), (0, 2))

    def test_against_walking(self):
        for hall, stand, plan in samples(31, 1500):
            self.assertEqual(comes_round(hall, stand, plan), slow_round(hall, stand, plan), (hall, stand, plan))

    def test_least_and_a_multiple_of_the_beats(self):
        for hall, stand, plan in samples(32, 300):
            told = comes_round(hall, stand, plan)
            self.assertIs(type(told), tuple)
            first, long = told
            self.assertEqual(long % len(plan), 0)
            self.assertGreater(long, 0)
            walked = slow_walk(hall, stand, plan, first + 2 * long)
            self.assertEqual(walked[first:first + long], walked[first + long:first + 2 * long])
            # None of those ahead of first comes again, and first itself no sooner.
            states = [(stand, at % len(plan)) for at, stand in enumerate(walked)]
            self.assertEqual(len(set(states[:first + long])), first + long)

    def test_far_stands_agree(self):
        for hall, stand, plan in samples(33, 200):
            first, long = comes_round(hall, stand, plan)
            for beats in (first, first + 1, first + len(plan)):
                for rounds in (1, 2, (FAR - beats) // long):
                    self.assertEqual(
                        by_plan(hall, stand, plan, beats), by_plan(hall, stand, plan, beats + rounds * long),
                    )


class TestOwn(unittest.TestCase):
    """[2]: nothing that is handed in is changed; the same question has the same answer."""

    def test_twice_the_same_and_nothing_changed(self):
        chance = random.Random(41)
        for _ in range(200):
            hall = some_hall(chance)
            stand = some_stand(chance, hall)
            plan = tuple(some_beat(chance, hall) for _ in range(chance.randint(1, 4)))
            handed = (hall, stand, plan)
            text = written(handed)
            for ask in (
                lambda: by_beat(hall, stand, plan[0]),
                lambda: by_plan(hall, stand, plan, 7),
                lambda: by_plan(hall, stand, plan, FAR),
                lambda: comes_round(hall, stand, plan),
                lambda: full(hall),
                lambda: bare(hall),
            ):
                first = ask()
                self.assertEqual(written(first), written(ask()))
                self.assertEqual(written(handed), text)

    def test_a_hall_asked_between_two_others_does_not_matter(self):
        asked = list(samples(42, 50))
        once = [by_plan(hall, stand, plan, 9) for hall, stand, plan in asked]
        again = [by_plan(hall, stand, plan, 9) for hall, stand, plan in reversed(asked)]
        self.assertEqual(once, again[::-1])


if __name__ == "__main__":
    unittest.main()
