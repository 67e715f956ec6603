"""least.py [3, 9]: all least stands from which a thing is kept."""

import itertools
import random
import unittest

from lorehall.errors import LoreError, NoPlan, NoThing, TooMany
from lorehall.halls import bare, is_stand
from lorehall.kept import can_be_kept, kept_from
from lorehall.least import least_from
from lorehall.stands import all_stands as package_stands
from tests.helper import (
    all_stands, halls_of_all_sizes, how_many, no_less, samples, slow_full, slow_kept, some_plan, written,
)

SMALL = {"most_folk": 2, "most_things": 2, "most_cap": 2}
HANDED_ON = (((0, 1, 0),), ((1, 2, 0),), ((2, 0, 0),))


def slow_least(hall, plan, thing):
    """All least stands from which the thing is kept, each held against each."""
    keeping = [stand for stand in all_stands(hall) if thing in slow_kept(hall, stand, plan)]
    return [
        stand for stand in keeping
        if not [less for less in keeping if less != stand and no_less(stand, less)]
    ]


class TestLeastFrom(unittest.TestCase):
    def check(self, hall, plan, thing, due):
        self.assertEqual(least_from(hall, plan, thing), due, (hall, plan, thing))

    def test_what_never_wanes(self):
        hall = (3, (((), 2, 3, 0),))
        self.check(hall, ((),), 0, [((0,), (0,), (1,)), ((0,), (1,), (0,)), ((1,), (0,), (0,))])

    def test_nothing_keeps_it(self):
        self.check((2, (((), 1, 3, 1),)), ((),), 0, [])
        self.check((3, (((), 1, 1, 1),)), HANDED_ON[:2], 0, [])

    def test_one_who_can_teach(self):
        hall = (2, (((), 2, 3, 1),))
        self.check(hall, (((0, 1, 0),),), 0, [((2,), (0,))])
        self.check(hall, (((0, 1, 0), (1, 0, 0)),), 0, [((0,), (2,)), ((2,), (0,))])
        self.check((3, (((), 1, 1, 1),)), HANDED_ON, 0, [((1,), (0,), (0,))])

    def test_levels_that_wane_ahead_of_teaching(self):
        hall = (2, (((), 1, 3, 1),))
        teaching = ((0, 1, 0), (1, 0, 0))
        self.check(hall, (teaching, (), ()), 0, [])
        # Only where the first one can teach does each of them come by enough levels.
        self.check(hall, (teaching * 2, (), ()), 0, [((1,), (0,))])
        self.check(hall, ((), teaching), 0, [((2,), (0,))])

    def test_with_what_the_thing_needs(self):
        hall = (2, (((), 1, 1, 1), ((0,), 1, 1, 1)))
        self.check(hall, (((0, 1, 0), (0, 1, 1)),), 1, [((1, 1), (0, 0))])
        self.check(hall, (((0, 1, 0), (0, 1, 1)),), 0, [((1, 0), (0, 0))])
        # The other one knows at first what the thing needs, or is taught it: two unlike ways.
        hall = (2, (((), 1, 1, 0), ((0,), 1, 1, 1)))
        self.check(hall, (((0, 1, 0), (0, 1, 1)),), 1, [((0, 1), (1, 0)), ((1, 1), (0, 0))])

    def test_against_all_stands_of_small_halls(self):
        sizes = set()
        for hall, _, plan in samples(111, 250, **SMALL):
            for thing in range(len(hall[1])):
                due = slow_least(hall, plan, thing)
                self.check(hall, plan, thing, due)
                sizes.add(len(due))
        self.assertTrue(sizes >= {0, 1, 2}, sizes)

    def test_halls_of_three_and_four_folk(self):
        for hall, _, plan in samples(112, 120, most_folk=4, most_things=2, most_cap=2):
            if how_many(hall) <= 256:
                for thing in range(len(hall[1])):
                    self.check(hall, plan, thing, slow_least(hall, plan, thing))

    def test_each_told_one_keeps_and_none_less_and_whatever_keeps_has_one_below(self):
        chance = random.Random(113)
        told_ones = 0
        for hall, _, plan in samples(114, 60):
            if how_many(hall) > 2000:
                continue
            thing = chance.randrange(len(hall[1]))
            told = least_from(hall, plan, thing)
            self.assertEqual(told, sorted(set(told)))
            told_ones += len(told)
            for stand in all_stands(hall):
                keeps = thing in kept_from(hall, stand, plan)
                below = [least for least in told if no_less(stand, least)]
                self.assertEqual(bool(below), keeps, (hall, plan, thing, stand))
                if stand in told:
                    self.assertEqual(below, [stand], (hall, plan, thing))
        self.assertGreater(told_ones, 30)

    def test_empty_just_where_it_can_not_be_kept(self):
        both = [0, 0]
        for hall, _, plan in samples(115, 300, most_folk=3, most_things=2):
            if how_many(hall) <= 2000:
                for thing in range(len(hall[1])):
                    kept = thing in can_be_kept(hall, plan)
                    self.assertEqual(least_from(hall, plan, thing) != [], kept, (hall, plan, thing))
                    both[kept] += 1
        self.assertGreater(min(both), 50)

    def test_kinds(self):
        for hall, _, plan in samples(116, 100, **SMALL):
            told = least_from(hall, plan, 0)
            self.assertIs(type(told), list)
            for stand in told:
                self.assertIs(is_stand(hall, stand), True)
                self.assertNotEqual(stand, bare(hall))


class TestTooMany(unittest.TestCase):
    def refused(self, kind, *handed):
        with self.assertRaises(LoreError) as caught:
            least_from(*handed)
        self.assertIs(type(caught.exception), kind, handed)
        return caught.exception

    def test_halls_of_all_sizes(self):
        # No hall has from 1729 to 2303 stands, so these two are what stands on either side of 2000.
        sizes = {how_many(hall) for hall in halls_of_all_sizes()}
        self.assertEqual(max(size for size in sizes if size <= 2000), 1728)
        self.assertEqual(min(size for size in sizes if size > 2000), 2304)
        for hall in halls_of_all_sizes():
            if how_many(hall) > 2000:
                refusal = self.refused(TooMany, hall, ((),), 0)
                self.assertEqual((type(refusal.most), refusal.most), (int, 2000))
            else:
                self.assertEqual(least_from(hall, ((),), 0), [], hall)
                self.assertEqual(len(least_from(hall, (((0, 1, 0),),), 0)), 1, hall)

    def test_as_many_as_can_be_looked_through(self):
        for caps in itertools.permutations((2, 3)):
            hall = (3, tuple(((), 1, cap, 1) for cap in caps))
            self.assertEqual(how_many(hall), 1728)
            self.assertEqual(least_from(hall, (((1, 2, 1),),), 1), [((0, 0), (0, 1), (0, 0))])

    def test_many_whatever_the_plan_and_the_thing(self):
        chance = random.Random(117)
        hall = (2, (((), 1, 3, 0), ((), 1, 3, 1), ((0,), 2, 2, 1)))
        self.assertEqual(how_many(hall), 2304)
        for _ in range(20):
            self.assertEqual(self.refused(TooMany, hall, some_plan(chance, hall), chance.randrange(3)).most, 2000)

    def test_other_refusals_go_ahead(self):
        hall = (4, (((), 1, 3, 1),) * 3)
        self.refused(TooMany, hall, ((),), 2)
        for thing in (3, -1, True, None, "0", (0,)):
            self.refused(NoThing, hall, ((),), thing)
            self.refused(NoPlan, hall, (), thing)
            self.refused(NoPlan, hall, None, 0)


class TestStands(unittest.TestCase):
    def test_all_stands_rising(self):
        for hall in halls_of_all_sizes():
            if how_many(hall) <= 2000:
                told = package_stands(hall)
                self.assertEqual(told, all_stands(hall))
                self.assertEqual(told, sorted(set(told)))
                self.assertEqual((told[0], told[-1], len(told)), (bare(hall), slow_full(hall), how_many(hall)))


class TestOwn(unittest.TestCase):
    """[2]: nothing that is handed in is changed; a told list is the asker's own."""

    def test_a_told_list_may_be_changed(self):
        hall = (2, (((), 1, 2, 0),))
        due = [((0,), (1,)), ((1,), (0,))]
        told = least_from(hall, ((),), 0)
        self.assertEqual(told, due)
        told.reverse()
        told.append("changed")
        self.assertEqual(least_from(hall, ((),), 0), due)
        self.assertIsNot(least_from(hall, ((),), 0), least_from(hall, ((),), 0))

    def test_nothing_changed_and_twice_the_same(self):
        for hall, _, plan in samples(118, 60, **SMALL):
            thing = len(hall[1]) - 1
            text = written((hall, plan, thing))
            self.assertEqual(written(least_from(hall, plan, thing)), written(least_from(hall, plan, thing)))
            self.assertEqual(written((hall, plan, thing)), text)


if __name__ == "__main__":
    unittest.main()
