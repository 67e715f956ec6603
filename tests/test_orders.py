"""orders.py [3, 11, 12]: what the orders of a beat's meetings do, and which stands lead to a stand."""

import itertools
import random
import unittest

from lorehall.beats import by_beat
from lorehall.errors import LoreError, NoBeat, NoHall, NoMeeting, NoStand, TooMany
from lorehall.halls import bare, full, is_stand
from lorehall.orders import ahead, are_free, ends
from tests.helper import (
    all_beats, all_meetings, all_stands, halls_of_all_sizes, how_many, no_less, samples, slow_beat, some_beat,
    some_hall, written,
)

SMALL = {"most_folk": 2, "most_things": 2, "most_cap": 2}
MIDDLE = {"most_folk": 3, "most_things": 2, "most_cap": 2}
GREAT = (4, (((), 1, 3, 1),) * 3)


def slow_ends(hall, stand, beat):
    return sorted({slow_beat(hall, stand, order) for order in itertools.permutations(beat)})


def slow_free(hall, meeting, second):
    for stand in all_stands(hall):
        if slow_beat(hall, stand, (meeting, second)) != slow_beat(hall, stand, (second, meeting)):
            return False
    return True


class TestEnds(unittest.TestCase):
    def check(self, hall, stand, beat, due):
        self.assertEqual(ends(hall, stand, beat), due, (hall, stand, beat))

    def test_no_meeting_or_one(self):
        hall = (2, (((), 1, 3, 1),))
        self.check(hall, ((3,), (0,)), (), [((2,), (0,))])
        self.check(hall, ((3,), (0,)), ((0, 1, 0),), [((3,), (1,))])
        self.check(hall, ((3,), (0,)), ((1, 0, 0),), [((2,), (0,))])

    def test_two_that_stand_on_each_other(self):
        hall = (3, (((), 1, 2, 2),))
        due = [((1,), (1,), (0,)), ((1,), (1,), (1,))]
        self.check(hall, ((1,), (0,), (0,)), ((0, 1, 0), (1, 2, 0)), due)
        self.check(hall, ((1,), (0,), (0,)), ((1, 2, 0), (0, 1, 0)), due)
        self.check(hall, ((1,), (1,), (0,)), ((0, 1, 0), (1, 2, 0)), [((1,), (2,), (1,))])

    def test_a_need_that_comes_first_or_last(self):
        hall = (2, (((), 1, 1, 1), ((0,), 1, 1, 1)))
        # In the order where the second thing can't be taught it isn't used, and wanes.
        self.check(hall, ((1, 1), (0, 0)), ((0, 1, 0), (0, 1, 1)), [((1, 0), (1, 0)), ((1, 1), (1, 1))])

    def test_what_is_not_used_wanes_in_each_order(self):
        hall = (3, (((), 1, 2, 1), ((), 1, 2, 1)))
        stand = ((1, 2), (0, 2), (0, 2))
        beat = ((0, 1, 0), (1, 2, 0))
        self.check(hall, stand, beat, [((1, 1), (1, 1), (0, 1)), ((1, 1), (1, 1), (1, 1))])

    def test_the_same_meeting_more_than_once(self):
        hall = (2, (((), 2, 3, 1),))
        self.check(hall, ((2,), (0,)), ((0, 1, 0),) * 4, [((2,), (3,))])
        # Three lessons one way, and the one the other way behind none or one, or behind two or three of them.
        self.check(hall, ((2,), (0,)), ((0, 1, 0),) * 3 + ((1, 0, 0),), [((2,), (3,)), ((3,), (3,))])

    def test_many_ends(self):
        hall = (4, (((), 1, 3, 1),))
        beat = ((0, 1, 0), (1, 2, 0), (2, 3, 0), (3, 0, 0))
        told = ends(hall, ((1,), (0,), (0,), (0,)), beat)
        self.assertEqual(told, slow_ends(hall, ((1,), (0,), (0,), (0,)), beat))
        self.assertGreater(len(told), 3)

    def test_against_all_orders(self):
        sizes = set()
        for hall, stand, plan in samples(301, 1200):
            for beat in plan:
                due = slow_ends(hall, stand, beat)
                self.check(hall, stand, beat, due)
                sizes.add(len(due))
        self.assertTrue(sizes >= {1, 2, 3, 4}, sizes)

    def test_all_beats_of_a_small_hall(self):
        hall = (2, (((), 1, 2, 1), ((0,), 2, 2, 1)))
        for beat in all_beats(hall, 3)[::3]:
            for stand in all_stands(hall)[::5]:
                self.check(hall, stand, beat, slow_ends(hall, stand, beat))

    def test_rising_with_what_the_beat_itself_leads_to(self):
        for hall, stand, plan in samples(302, 300):
            for beat in plan:
                told = ends(hall, stand, beat)
                self.assertIs(type(told), list)
                self.assertEqual(told, sorted(set(told)))
                self.assertIn(by_beat(hall, stand, beat), told)
                self.assertLessEqual(len(told), 24)
                for end in told:
                    self.assertIs(is_stand(hall, end), True)

    def test_the_same_for_each_order_handed_in(self):
        for hall, stand, plan in samples(303, 100):
            told = ends(hall, stand, plan[0])
            for order in itertools.permutations(plan[0]):
                self.check(hall, stand, order, told)

    def test_no_hall_is_too_great(self):
        self.assertEqual(ends(GREAT, full(GREAT), ()), [((2, 2, 2),) * 4])
        for hall in halls_of_all_sizes():
            due = [full(hall)[:2] + tuple(tuple(cap - 1 for cap in row) for row in full(hall)[2:])]
            beat = tuple((0, 1, thing) for thing in range(len(hall[1])))
            self.check(hall, full(hall), beat, due)


class TestAreFree(unittest.TestCase):
    def check(self, hall, meeting, second, due):
        self.assertIs(are_free(hall, meeting, second), due, (hall, meeting, second))
        self.assertIs(are_free(hall, second, meeting), due, (hall, second, meeting))

    def test_the_same_meeting_twice(self):
        for hall, _, _ in samples(311, 20, **MIDDLE):
            for meeting in all_meetings(hall):
                self.check(hall, meeting, meeting, True)

    def test_folk_who_do_not_meet(self):
        hall = (4, (((), 1, 3, 1),))
        self.check(hall, (0, 1, 0), (2, 3, 0), True)
        self.check(hall, (0, 1, 0), (1, 2, 0), False)

    def test_one_who_teaches_two_and_two_who_teach_one(self):
        hall = (3, (((), 1, 3, 1),))
        self.check(hall, (0, 1, 0), (0, 2, 0), True)
        self.check(hall, (1, 0, 0), (2, 0, 0), True)

    def test_there_and_back(self):
        self.check((2, (((), 1, 1, 1),)), (0, 1, 0), (1, 0, 0), True)
        self.check((2, (((), 1, 2, 1),)), (0, 1, 0), (1, 0, 0), False)
        self.check((2, (((), 2, 2, 1),)), (0, 1, 0), (1, 0, 0), True)
        self.check((2, (((), 2, 3, 1),)), (0, 1, 0), (1, 0, 0), False)

    def test_things_that_hang_on_one_another(self):
        hall = (3, (((), 1, 1, 1), ((), 1, 1, 1), ((0,), 1, 1, 1)))
        self.check(hall, (0, 1, 0), (0, 1, 1), True)
        self.check(hall, (0, 1, 0), (0, 1, 2), False)
        self.check(hall, (0, 1, 1), (0, 1, 2), True)
        # What the teacher is taught the pupil does not know by it.
        self.check(hall, (0, 1, 0), (1, 2, 2), True)

    def test_against_all_stands(self):
        both = [0, 0]
        chance = random.Random(312)
        for _ in range(150):
            hall = some_hall(chance, **MIDDLE)
            for _ in range(4):
                meeting, second = chance.choice(all_meetings(hall)), chance.choice(all_meetings(hall))
                due = slow_free(hall, meeting, second)
                self.check(hall, meeting, second, due)
                both[due] += 1
        self.assertGreater(min(both), 50)

    def test_all_pairs_of_small_halls(self):
        for hall in (
            (2, (((), 1, 2, 0), ((0,), 1, 1, 1))), (2, (((), 2, 2, 1), ((0,), 2, 2, 1))),
            (3, (((), 1, 1, 1), ((0,), 1, 1, 1))), (4, (((), 1, 1, 1),)),
        ):
            for meeting, second in itertools.combinations_with_replacement(all_meetings(hall), 2):
                self.check(hall, meeting, second, slow_free(hall, meeting, second))

    def test_one_end_from_each_stand_just_where_they_are_free(self):
        chance = random.Random(313)
        for _ in range(100):
            hall = some_hall(chance, **SMALL)
            meeting, second = chance.choice(all_meetings(hall)), chance.choice(all_meetings(hall))
            many = max(len(ends(hall, stand, (meeting, second))) for stand in all_stands(hall))
            self.check(hall, meeting, second, many == 1)


class TestAhead(unittest.TestCase):
    def check(self, hall, stand, beat, due):
        self.assertEqual(ahead(hall, stand, beat), due, (hall, stand, beat))

    def test_no_meeting(self):
        hall = (2, (((), 1, 2, 1),))
        self.check(hall, ((0,), (0,)), (), [((0,), (0,)), ((0,), (1,)), ((1,), (0,)), ((1,), (1,))])
        self.check(hall, ((1,), (0,)), (), [((2,), (0,)), ((2,), (1,))])
        # Nothing that isn't used stays at its cap.
        self.check(hall, ((2,), (0,)), (), [])
        hall = (2, (((), 1, 2, 0),))
        self.check(hall, ((2,), (1,)), (), [((2,), (1,))])

    def test_a_lesson(self):
        hall = (2, (((), 1, 2, 1),))
        self.check(hall, ((1,), (1,)), ((0, 1, 0),), [((1,), (0,))])
        self.check(hall, ((2,), (2,)), ((0, 1, 0),), [((2,), (1,)), ((2,), (2,))])
        self.check(hall, ((0,), (1,)), ((0, 1, 0),), [((0,), (2,))])
        self.check(hall, ((1,), (0,)), ((0, 1, 0),), [])

    def test_what_can_not_have_come(self):
        hall = (3, (((), 1, 1, 1),))
        self.check(hall, ((1,), (1,), (1,)), ((0, 1, 0),), [])
        self.check(hall, ((1,), (1,), (0,)), ((0, 1, 0),), [
            ((1,), (0,), (0,)), ((1,), (0,), (1,)), ((1,), (1,), (0,)), ((1,), (1,), (1,)),
        ])

    def test_against_all_stands(self):
        sizes = set()
        for hall, stand, plan in samples(321, 250, **MIDDLE):
            for beat in plan:
                for end in (stand, by_beat(hall, stand, beat)):
                    due = [begin for begin in all_stands(hall) if slow_beat(hall, begin, beat) == end]
                    self.check(hall, end, beat, due)
                    sizes.add(min(len(due), 5))
        self.assertEqual(sizes, {0, 1, 2, 3, 4, 5})

    def test_each_stand_is_told_of_just_what_it_leads_to(self):
        for hall, _, plan in samples(322, 25, **SMALL):
            told = {stand: ahead(hall, stand, plan[0]) for stand in all_stands(hall)}
            for begin in all_stands(hall):
                self.assertEqual(
                    [stand for stand in told if begin in told[stand]], [slow_beat(hall, begin, plan[0])], (hall, begin),
                )

    def test_rising(self):
        for hall, stand, plan in samples(323, 100, **MIDDLE):
            told = ahead(hall, by_beat(hall, stand, plan[0]), plan[0])
            self.assertIs(type(told), list)
            self.assertIn(stand, told)
            self.assertEqual(told, sorted(set(told)))
            for begin in told:
                self.assertIs(is_stand(hall, begin), True)

    def test_what_lies_between_two_that_lead_to_it_does_too(self):
        # [3]: who begins with no less never comes to less.
        between_ones = 0
        for hall, stand, plan in samples(324, 60, **SMALL):
            told = ahead(hall, by_beat(hall, stand, plan[0]), plan[0])
            for low, high in itertools.product(told, repeat=2):
                for stand in all_stands(hall):
                    if no_less(high, stand) and no_less(stand, low):
                        self.assertIn(stand, told)
                        between_ones += stand not in (low, high)
        self.assertGreater(between_ones, 100)


class TestTooMany(unittest.TestCase):
    def refused(self, kind, ask, *handed):
        with self.assertRaises(LoreError) as caught:
            ask(*handed)
        self.assertIs(type(caught.exception), kind, (ask.__name__, handed))
        return caught.exception

    def test_halls_of_all_sizes(self):
        for hall in halls_of_all_sizes():
            if how_many(hall) > 2000:
                for refusal in (
                    self.refused(TooMany, are_free, hall, (0, 1, 0), (0, 1, 0)),
                    self.refused(TooMany, ahead, hall, bare(hall), ()),
                ):
                    self.assertEqual((type(refusal.most), refusal.most), (int, 2000))
            else:
                self.assertIs(are_free(hall, (0, 1, 0), (0, 1, 0)), True)
                self.assertEqual(ahead(hall, full(hall), ()), [])
                due = [stand for stand in all_stands(hall) if max(map(max, stand)) <= 1]
                self.assertEqual(ahead(hall, bare(hall), ()), due)

    def test_other_refusals_go_ahead(self):
        self.refused(TooMany, ahead, GREAT, full(GREAT), ())
        self.refused(NoBeat, ahead, GREAT, full(GREAT), None)
        self.refused(NoStand, ahead, GREAT, None, ())
        self.refused(NoStand, ahead, GREAT, None, None)
        self.refused(NoHall, ahead, None, full(GREAT), ())
        self.refused(TooMany, are_free, GREAT, (0, 1, 0), (1, 0, 0))
        self.refused(NoMeeting, are_free, GREAT, (0, 1, 0), (1, 1, 0))
        self.refused(NoMeeting, are_free, GREAT, (0, 1, 3), (1, 0, 0))
        self.refused(NoHall, are_free, None, (0, 1, 3), (1, 0, 0))

    def test_meetings_at_their_bounds(self):
        for folk in (2, 3, 4):
            hall = (folk, (((), 1, 1, 1),))
            for one, other, thing in itertools.product((-1, 0, 1, folk - 1, folk), (-1, 0, folk - 1, folk), (-1, 0, 1)):
                meeting = (one, other, thing)
                if meeting in all_meetings(hall):
                    self.assertIs(are_free(hall, meeting, meeting), True)
                else:
                    self.refused(NoMeeting, are_free, hall, meeting, (0, 1, 0))
                    self.refused(NoMeeting, are_free, hall, (0, 1, 0), meeting)


class TestOwn(unittest.TestCase):
    """[2]: nothing that is handed in is changed; a told list is the asker's own."""

    def test_a_told_list_may_be_changed(self):
        hall = (2, (((), 1, 2, 1),))
        stand = ((1,), (0,))
        beat = ((0, 1, 0), (1, 0, 0))
        for ask in (
            lambda: ends(hall, stand, beat), lambda: ahead(hall, stand, ()), lambda: ahead(hall, full(hall), ()),
        ):
            told = ask()
            due = list(told)
            told.reverse()
            told.append("changed")
            self.assertEqual(ask(), due)
            self.assertIsNot(ask(), ask())

    def test_nothing_changed_and_twice_the_same(self):
        chance = random.Random(331)
        for hall, stand, _ in samples(332, 60, **MIDDLE):
            beat = some_beat(chance, hall)
            meeting, second = chance.choice(all_meetings(hall)), chance.choice(all_meetings(hall))
            text = written((hall, stand, beat, meeting, second))
            for ask in (
                lambda: ends(hall, stand, beat),
                lambda: are_free(hall, meeting, second),
                lambda: ahead(hall, stand, beat),
            ):
                self.assertEqual(written(ask()), written(ask()))
                self.assertEqual(written((hall, stand, beat, meeting, second)), text)


if __name__ == "__main__":
    unittest.main()
