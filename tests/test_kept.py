"""kept.py [3, 7]: what is kept from a stand, what from some stand, and the greatest stand that stays."""

import random
import unittest

from lorehall.beats import by_beat, by_plan
from lorehall.halls import bare, full, is_stand
from lorehall.kept import can_be_kept, greatest, kept_from
from tests.helper import (
    all_stands, no_less, samples, slow_fall, slow_kept, slow_plan, slow_round, slow_walk, some_less, some_plan,
    some_stand, written,
)

FAR = 10 ** 18
SMALL = {"most_folk": 2, "most_things": 2, "most_cap": 2}
# One teaches the next one, round and round: at each beat there is somebody who does not know it.
HANDED_ON = (((0, 1, 0),), ((1, 2, 0),), ((2, 0, 0),))


class TestKeptFrom(unittest.TestCase):
    def check(self, hall, stand, plan, due):
        self.assertEqual(kept_from(hall, stand, plan), due, (hall, stand, plan))

    def test_unlike_folk_at_unlike_beats(self):
        hall = (3, (((), 1, 1, 1),))
        walked = slow_walk(hall, ((1,), (0,), (0,)), HANDED_ON, 30)
        for who in range(3):
            self.assertIn((0,), [stand[who] for stand in walked[1:]])
        self.check(hall, ((1,), (0,), (0,)), HANDED_ON, [0])
        self.check(hall, ((0,), (1,), (0,)), HANDED_ON, [])
        self.check(hall, ((0,), (0,), (1,)), HANDED_ON, [])
        self.check(hall, ((0,), (1,), (0,)), HANDED_ON[1:] + HANDED_ON[:1], [0])

    def test_from_the_first_beat_of_the_plan(self):
        hall = (2, (((), 2, 2, 1),))
        teaching = ((0, 1, 0), (1, 0, 0))
        self.check(hall, ((2,), (1,)), (teaching,), [0])
        self.check(hall, ((2,), (1,)), ((), teaching), [])
        self.check(hall, ((2,), (1,)), (teaching, ()), [])

    def test_nobody_knows_it_at_first(self):
        hall = (2, (((), 1, 3, 0), ((), 1, 3, 0)))
        self.check(hall, ((0, 1), (0, 0)), ((),), [1])
        self.check(hall, ((0, 0), (3, 0)), (((1, 0, 0),),), [0])
        self.check(hall, bare(hall), (((0, 1, 0),),), [])

    def test_lost_late(self):
        # By each plan both lose a level, and only the other one is taught a level.
        hall = (2, (((), 1, 3, 1),))
        plan = (((0, 1, 0),), ())
        walked = slow_walk(hall, ((3,), (0,)), plan, 6)
        self.assertEqual([sum(row[0] for row in stand) for stand in walked], [3, 4, 2, 3, 1, 2, 0])
        self.check(hall, ((3,), (0,)), plan, [])

    def test_lost_in_the_middle_of_a_plan(self):
        hall = (2, (((), 1, 1, 1),))
        teaching = ((0, 1, 0),)
        self.check(hall, full(hall), (teaching, teaching, teaching, teaching), [0])
        for at in range(4):
            plan = tuple(() if beat == at else teaching for beat in range(4))
            self.check(hall, full(hall), plan, [])

    def test_level_one_is_known(self):
        hall = (2, (((), 3, 3, 0),))
        self.check(hall, ((1,), (0,)), ((),), [0])
        self.check(hall, ((0,), (1,)), ((),), [0])

    def test_a_thing_goes_with_what_it_needs(self):
        hall = (2, (((), 1, 2, 1), ((0,), 1, 2, 1)))
        plan = (((0, 1, 0), (0, 1, 1)),)
        self.check(hall, ((1, 1), (0, 0)), plan, [0, 1])
        self.check(hall, ((1, 0), (1, 1)), plan, [0])
        self.check(hall, ((0, 1), (0, 0)), plan, [])
        # Known by who learns, but waning: the second thing goes some beats behind the first one.
        self.check(hall, ((0, 1), (1, 0)), plan, [])

    def test_rising(self):
        hall = (2, (((), 1, 1, 0), ((), 1, 1, 1), ((), 1, 1, 0)))
        self.check(hall, full(hall), ((),), [0, 2])
        self.check(hall, full(hall), (((0, 1, 1),),), [0, 1, 2])

    def test_against_walking(self):
        both = [0, 0]
        for hall, stand, plan in samples(51, 2000):
            due = slow_kept(hall, stand, plan)
            self.check(hall, stand, plan, due)
            both[0] += len([thing for thing in due if hall[1][thing][3] > 0])
            both[1] += len(hall[1]) - len(due)
        # Both answers were tried often, and that without a thing that never wanes.
        self.assertGreater(min(both), 200, both)

    def test_all_stands_of_small_halls(self):
        for hall, _, plan in samples(52, 60, **SMALL):
            for stand in all_stands(hall):
                self.check(hall, stand, plan, slow_kept(hall, stand, plan))

    def test_known_at_each_beat_however_far(self):
        for hall, stand, plan in samples(53, 150):
            told = kept_from(hall, stand, plan)
            for beats in (0, 1, 2, 3, 5, 30, 31, FAR - 1, FAR):
                passed = by_plan(hall, stand, plan, beats)
                for thing in told:
                    self.assertTrue(any(row[thing] for row in passed), (hall, stand, plan, beats))
            for thing in range(len(hall[1])):
                if thing not in told:
                    self.assertFalse(any(row[thing] for row in by_plan(hall, stand, plan, FAR)), (hall, stand, plan))

    def test_the_same_from_each_stand_on_the_way_at_its_beat(self):
        for hall, stand, plan in samples(54, 200):
            told = kept_from(hall, stand, plan)
            for at in range(len(plan)):
                turned = plan[at:] + plan[:at]
                self.assertEqual(kept_from(hall, by_plan(hall, stand, plan, at), turned), told, (hall, stand, plan, at))


class TestNeverLess(unittest.TestCase):
    """[3]: who begins with no less, each of each thing, never comes to less."""

    def check(self, hall, more, less, plan):
        for beats in (0, 1, 2, 3, 7, FAR):
            self.assertTrue(
                no_less(by_plan(hall, more, plan, beats), by_plan(hall, less, plan, beats)),
                (hall, more, less, plan, beats),
            )
        for beat in plan:
            self.assertTrue(no_less(by_beat(hall, more, beat), by_beat(hall, less, beat)), (hall, more, less, beat))
        kept = kept_from(hall, more, plan)
        self.assertEqual([thing for thing in kept_from(hall, less, plan) if thing not in kept], [], (hall, more, less))

    def test_all_pairs_of_small_halls(self):
        for hall, _, plan in samples(55, 25, most_folk=2, most_things=2, most_cap=1):
            for more in all_stands(hall):
                for less in all_stands(hall):
                    if no_less(more, less):
                        self.check(hall, more, less, plan)

    def test_great_halls(self):
        chance = random.Random(56)
        for hall, stand, plan in samples(57, 600):
            self.check(hall, stand, some_less(chance, stand), plan)
            self.check(hall, full(hall), stand, plan)
            self.check(hall, stand, bare(hall), plan)


class TestCanBeKept(unittest.TestCase):
    def test_against_all_stands_of_small_halls(self):
        sizes = set()
        for hall, _, plan in samples(61, 150, **SMALL):
            due = set()
            for stand in all_stands(hall):
                due |= set(kept_from(hall, stand, plan))
            self.assertEqual(can_be_kept(hall, plan), sorted(due), (hall, plan))
            sizes.add((len(hall[1]), len(due)))
        self.assertEqual(sizes, {(1, 0), (1, 1), (2, 0), (2, 1), (2, 2)})

    def test_great_halls(self):
        # What is told is kept from the full stand; what isn't is kept from none that was tried.
        chance = random.Random(62)
        for hall, stand, plan in samples(63, 700):
            told = can_be_kept(hall, plan)
            self.assertEqual(told, slow_kept(hall, full(hall), plan), (hall, plan))
            for tried in (stand, some_stand(chance, hall), some_less(chance, full(hall)), greatest(hall, plan)):
                for thing in kept_from(hall, tried, plan):
                    self.assertIn(thing, told, (hall, tried, plan))

    def test_known_cases(self):
        for hall, plan, due in (
            ((2, (((), 1, 1, 1),)), ((),), []),
            ((2, (((), 1, 1, 0),)), ((),), [0]),
            ((3, (((), 1, 1, 1),)), HANDED_ON, [0]),
            ((3, (((), 1, 1, 1),)), HANDED_ON[:2], []),
            ((2, (((), 1, 3, 1), ((), 1, 3, 0), ((0,), 1, 3, 1))), (((0, 1, 2),),), [1]),
            ((2, (((), 1, 3, 1), ((), 1, 3, 0), ((0,), 1, 3, 1))), (((0, 1, 0), (0, 1, 2)),), [0, 1, 2]),
        ):
            self.assertEqual(can_be_kept(hall, plan), due, (hall, plan))

    def test_kept_from_the_greatest(self):
        for hall, _, plan in samples(64, 300):
            self.assertEqual(kept_from(hall, greatest(hall, plan), plan), can_be_kept(hall, plan), (hall, plan))


class TestGreatest(unittest.TestCase):
    def test_against_all_stands_of_small_halls(self):
        many = set()
        for hall, _, plan in samples(71, 200, **SMALL):
            staying = [stand for stand in all_stands(hall) if slow_plan(hall, stand, plan) == stand]
            told = greatest(hall, plan)
            self.assertIn(told, staying, (hall, plan))
            for stand in staying:
                self.assertTrue(no_less(told, stand), (hall, plan, stand))
            many.add(len(staying))
        self.assertGreater(len(many), 5)

    def test_great_halls(self):
        chance = random.Random(72)
        other_ones = 0
        for hall, stand, plan in samples(73, 500):
            told = greatest(hall, plan)
            self.assertIs(is_stand(hall, told), True)
            self.assertEqual(slow_plan(hall, told, plan), told, (hall, plan))
            self.assertEqual(told, slow_fall(hall, plan)[-1], (hall, plan))
            for tried in (stand, some_stand(chance, hall), some_less(chance, told)):
                first, _ = slow_round(hall, tried, plan)
                comes = slow_walk(hall, tried, plan, first + (-first) % len(plan))[-1]
                if slow_plan(hall, comes, plan) == comes:
                    self.assertTrue(no_less(told, comes), (hall, plan, comes))
                    other_ones += comes != told
        self.assertGreater(other_ones, 100)

    def test_as_it_was_only_behind_the_whole_plan(self):
        hall = (2, (((), 1, 3, 1),))
        plan = ((), ((0, 1, 0), (1, 0, 0)))
        self.assertEqual(greatest(hall, plan), ((3,), (3,)))
        self.assertEqual(greatest(hall, plan[::-1]), ((2,), (2,)))
        self.assertNotEqual(by_beat(hall, ((3,), (3,)), plan[0]), ((3,), (3,)))

    def test_known_cases(self):
        one = (2, (((), 1, 3, 1),))
        self.assertEqual(greatest(one, ((),)), bare(one))
        self.assertEqual(greatest(one, (((0, 1, 0),),)), full(one))
        self.assertEqual(greatest((2, (((), 1, 3, 0),)), ((), ())), ((3,), (3,)))
        self.assertEqual(greatest((3, (((), 1, 1, 1),)), HANDED_ON), ((1,), (0,), (1,)))

    def test_a_whole_plan_further(self):
        for hall, _, plan in samples(74, 200):
            told = greatest(hall, plan)
            for beats in (len(plan), 5 * len(plan), FAR - FAR % len(plan)):
                self.assertEqual(by_plan(hall, told, plan, beats), told, (hall, plan, beats))


class TestOwn(unittest.TestCase):
    """[2]: nothing that is handed in is changed; a told list is the asker's own."""

    def test_nothing_changed_and_twice_the_same(self):
        chance = random.Random(81)
        for hall, stand, _ in samples(82, 200):
            plan = some_plan(chance, hall)
            text = written((hall, stand, plan))
            for ask in (
                lambda: kept_from(hall, stand, plan),
                lambda: can_be_kept(hall, plan),
                lambda: greatest(hall, plan),
            ):
                first = ask()
                self.assertEqual(written(first), written(ask()))
                self.assertEqual(written((hall, stand, plan)), text)

    def test_a_told_list_may_be_changed(self):
        hall = (2, (((), 1, 1, 0), ((), 1, 1, 0)))
        for ask in (lambda: kept_from(hall, full(hall), ((),)), lambda: can_be_kept(hall, ((),))):
            told = ask()
            self.assertIs(type(told), list)
            told[0] = "changed"
            told.append(7)
            self.assertEqual(ask(), [0, 1])
            self.assertIsNot(ask(), ask())

    def test_kinds(self):
        for hall, stand, plan in samples(83, 100):
            for told in (kept_from(hall, stand, plan), can_be_kept(hall, plan)):
                self.assertIs(type(told), list)
                self.assertEqual({type(thing) for thing in told} - {int}, set())
                self.assertEqual(told, sorted(set(told)))


if __name__ == "__main__":
    unittest.main()
