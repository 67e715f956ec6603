"""lessons.py [3, 10]: the fewest lessons that bring a wish, the stand that none changes, and papers for both."""

import copy
import itertools
import random
import unittest

from lorehall.beats import by_beat
from lorehall.errors import LoreError, NoHall, NoStand, TooMany
from lorehall.halls import bare, full, is_beat, is_stand
from lorehall.lessons import is_shown, lessons
from tests.helper import (
    ANYTHING, ODD_PARTS, all_meetings, all_stands, changed, halls_of_all_sizes, how_many, no_less,
    slow_is_shown, slow_lessons, slow_reached, slow_row, slow_stay, some_beat, some_hall, some_less, some_stand,
    written,
)

SMALL = {"most_folk": 2, "most_things": 2, "most_cap": 2}
MIDDLE = {"most_folk": 3, "most_things": 2, "most_cap": 2}
GREAT = (4, (((), 1, 3, 1),) * 3)
HALL = (2, (((), 1, 2, 1), ((0,), 2, 2, 2)))
STAND = ((1, 2), (0, 0))


def wishes(seed, many, **bounds):
    """So many (hall, stand, wish), of halls that can be looked through; about half of the wishes can come."""
    chance = random.Random(seed)
    found = []
    while len(found) < many:
        hall = some_hall(chance, **bounds)
        if how_many(hall) <= 2000:
            # Where many know nothing few lessons can be given, so some stands are made lower.
            stand = some_stand(chance, hall)
            stand = chance.choice((stand, some_less(chance, stand)))
            reached = sorted(slow_reached(hall, stand))
            wish = chance.choice((some_stand(chance, hall), reached[-1], chance.choice(reached)))
            found.append((hall, stand, wish))
    return found


def rows_of(hall, many):
    """All rows of so many meetings, rising."""
    return [list(row) for row in itertools.product(all_meetings(hall), repeat=many)]


class TestRow(unittest.TestCase):
    def check(self, hall, stand, wish, due):
        told = lessons(hall, stand, wish)
        self.assertEqual(told, ("row", due), (hall, stand, wish))
        self.assertIs(is_shown(hall, stand, wish, told), True)

    def test_none_where_it_is_already(self):
        self.check(HALL, STAND, STAND, [])
        self.check(HALL, STAND, bare(HALL), [])
        self.check(HALL, STAND, ((0, 2), (0, 0)), [])
        self.check(HALL, full(HALL), full(HALL), [])
        self.check(HALL, bare(HALL), bare(HALL), [])

    def test_one_lesson(self):
        hall = (3, (((), 1, 2, 1),))
        self.check(hall, ((1,), (0,), (0,)), ((0,), (1,), (0,)), [(0, 1, 0)])
        self.check(hall, ((1,), (0,), (0,)), ((0,), (0,), (1,)), [(0, 2, 0)])
        self.check(hall, ((0,), (0,), (1,)), ((0,), (1,), (0,)), [(2, 1, 0)])

    def test_a_need_comes_ahead(self):
        self.check(HALL, STAND, ((0, 0), (0, 1)), [(0, 1, 0), (0, 1, 1)])
        self.check(HALL, STAND, ((0, 0), (1, 2)), [(0, 1, 0), (0, 1, 1), (0, 1, 1)])

    def test_who_could_not_teach_is_taught_so_far(self):
        hall = (2, (((), 2, 3, 0),))
        self.check(hall, ((2,), (0,)), ((3,), (0,)), [(0, 1, 0), (0, 1, 0), (1, 0, 0)])

    def test_nothing_wanes_in_a_row(self):
        # At a beat each would lose, at once, all that isn't used.
        hall = (4, (((), 1, 1, 1), ((), 1, 1, 1)))
        stand = ((1, 0), (0, 1), (0, 0), (0, 0))
        # Who has just been taught is a lesser teacher by their number, so they teach at once.
        due = [(0, 1, 0), (0, 2, 0), (0, 3, 0), (1, 0, 1), (0, 2, 1), (0, 3, 1)]
        self.check(hall, stand, full(hall), due)
        # More meetings than a beat can have are a row all the same.
        self.assertGreater(len(due), 4)
        self.assertFalse(is_beat(hall, tuple(due)))

    def test_the_first_of_the_fewest(self):
        hall = (3, (((), 1, 1, 1),))
        # The second one could teach the third one too, but that is the greater row.
        self.check(hall, ((1,), (0,), (0,)), full(hall), [(0, 1, 0), (0, 2, 0)])
        self.check(hall, ((1,), (1,), (0,)), full(hall), [(0, 2, 0)])
        self.check(hall, ((0,), (1,), (0,)), full(hall), [(1, 0, 0), (0, 2, 0)])
        # Two lessons in either order: the lesser one goes first.
        hall = (3, (((), 1, 1, 1), ((), 1, 1, 1)))
        self.check(hall, ((0, 1), (0, 0), (1, 0)), ((1, 0), (0, 1), (0, 0)), [(0, 1, 1), (2, 0, 0)])

    def test_rows_as_short_that_lead_to_unlike_stands(self):
        # Either of the two others can be taught so far that they teach the one.
        hall = (3, (((), 2, 3, 1),))
        self.check(hall, ((2,), (1,), (1,)), ((3,), (0,), (0,)), [(0, 1, 0), (1, 0, 0)])
        self.check(hall, ((2,), (0,), (1,)), ((3,), (0,), (0,)), [(0, 2, 0), (2, 0, 0)])
        self.check(hall, ((1,), (2,), (1,)), ((0,), (3,), (0,)), [(1, 0, 0), (0, 1, 0)])
        hall = (4, (((), 2, 3, 1),))
        self.check(hall, ((1,), (1,), (1,), (2,)), ((0,), (0,), (0,), (3,)), [(3, 0, 0), (0, 3, 0)])

    def test_the_fewest_goes_ahead_of_the_lesser(self):
        hall = (3, (((), 1, 1, 0),))
        # [(0, 1, 0), (1, 2, 0)] would be the lesser one as a tuple, but it is longer.
        self.check(hall, ((1,), (0,), (0,)), ((1,), (0,), (1,)), [(0, 2, 0)])
        self.check(hall, ((0,), (0,), (1,)), ((0,), (1,), (0,)), [(2, 1, 0)])

    def test_against_all_rows_of_small_halls(self):
        lengths = set()
        for hall, stand, wish in wishes(201, 250, **SMALL):
            told = lessons(hall, stand, wish)
            if told[0] == "row" and len(told[1]) <= 5:
                # Each shorter row, and each lesser one, is tried.
                for many in range(len(told[1]) + 1):
                    bring = [row for row in rows_of(hall, many) if no_less(slow_row(hall, stand, row), wish)]
                    due = [told[1]] if many == len(told[1]) else []
                    self.assertEqual(bring[:1], due, (hall, stand, wish))
                lengths.add(len(told[1]))
        self.assertEqual(lengths, {0, 1, 2, 3, 4, 5})

    def test_against_counting_back(self):
        lengths = set()
        one_thing = {"most_folk": 4, "most_things": 1, "most_cap": 3}
        for hall, stand, wish in wishes(202, 400, **MIDDLE) + wishes(205, 300, **one_thing):
            told = lessons(hall, stand, wish)
            self.assertEqual(told, slow_lessons(hall, stand, wish), (hall, stand, wish))
            lengths.add((told[0], len(told[1])))
        self.assertTrue(lengths >= {("row", many) for many in range(7)}, lengths)

    def test_all_stands_and_wishes_of_a_small_hall(self):
        for hall in (HALL, (3, (((), 2, 2, 1),)), (2, (((), 1, 1, 0), ((), 1, 1, 1), ((0, 1), 1, 1, 1)))):
            for stand in all_stands(hall)[::3]:
                for wish in all_stands(hall)[::4]:
                    self.assertEqual(lessons(hall, stand, wish), slow_lessons(hall, stand, wish), (hall, stand, wish))

    def test_halls_of_four_folk_or_many_stands(self):
        for hall, stand, wish in (
            ((4, (((), 2, 3, 1),)), ((2,), (0,), (0,), (1,)), ((0,), (0,), (3,), (3,))),
            ((4, (((), 1, 1, 1), ((0,), 2, 2, 1))), ((1, 0), (0, 0), (0, 2), (0, 0)), ((1, 1), (1, 0), (0, 0), (1, 1))),
            ((3, (((), 1, 2, 1), ((0,), 2, 3, 1))), ((1, 2), (0, 0), (0, 0)), ((2, 3), (0, 0), (0, 1))),
            (
                (3, (((), 1, 1, 1), ((), 1, 1, 1), ((0, 1), 2, 2, 1))),
                ((1, 0, 0), (0, 1, 2), (0, 0, 0)), ((0, 0, 1), (0, 0, 0), (0, 0, 2)),
            ),
        ):
            told = lessons(hall, stand, wish)
            self.assertEqual(told[0], "row")
            self.assertGreater(len(told[1]), 3)
            self.assertEqual(told, slow_lessons(hall, stand, wish), (hall, stand, wish))

    def test_a_short_row_is_a_beat_where_there_is_no_loss(self):
        beats = 0
        for hall, stand, wish in wishes(206, 300, **MIDDLE):
            word, row = lessons(hall, stand, wish)
            if word == "row" and 1 <= len(row) <= 4:
                folk, things = hall
                lossless = (folk, tuple((needs, teach, cap, 0) for needs, teach, cap, _ in things))
                self.assertTrue(no_less(by_beat(lossless, stand, tuple(row)), wish), (hall, stand, wish))
                self.assertFalse(no_less(by_beat(lossless, stand, tuple(row[:-1])), wish), (hall, stand, wish))
                beats += 1
        self.assertGreater(beats, 50)

    def test_who_begins_with_no_less_needs_no_more_lessons(self):
        chance = random.Random(203)
        for hall, stand, wish in wishes(204, 200, **MIDDLE):
            told = lessons(hall, some_less(chance, stand), wish)
            if told[0] == "row":
                word, row = lessons(hall, stand, wish)
                self.assertEqual(word, "row")
                self.assertLessEqual(len(row), len(told[1]), (hall, stand, wish))


class TestStay(unittest.TestCase):
    def check(self, hall, stand, wish, due):
        told = lessons(hall, stand, wish)
        self.assertEqual(told, ("stay", due), (hall, stand, wish))
        self.assertIs(is_shown(hall, stand, wish, told), True)

    def test_nobody_knows_it(self):
        hall = (2, (((), 1, 3, 0), ((), 1, 3, 0)))
        self.check(hall, bare(hall), ((1, 0), (0, 0)), bare(hall))
        self.check(hall, ((1, 0), (0, 0)), ((0, 0), (0, 1)), ((3, 0), (3, 0)))

    def test_nobody_can_teach_it(self):
        hall = (2, (((), 2, 3, 0),))
        self.check(hall, ((1,), (1,)), ((2,), (0,)), ((1,), (1,)))
        self.check(hall, ((1,), (1,)), full(hall), ((1,), (1,)))

    def test_what_it_needs_is_wanting(self):
        hall = (2, (((), 1, 1, 1), ((0,), 1, 2, 1)))
        self.check(hall, ((0, 1), (0, 0)), ((0, 0), (0, 1)), ((0, 1), (0, 0)))
        # The first thing can't come, but a lesson of the third one can.
        hall = (2, (((), 1, 1, 1), ((0,), 1, 2, 1), ((), 1, 2, 2)))
        self.check(hall, ((0, 1, 1), (0, 0, 0)), full(hall), ((0, 1, 2), (0, 0, 2)))

    def test_who_is_alone_with_a_thing_is_taught_by_their_pupils(self):
        hall = (3, (((), 1, 2, 2), ((), 3, 3, 3)))
        self.check(hall, ((1, 0), (0, 2), (0, 0)), ((0, 0), (0, 3), (0, 0)), ((2, 0), (2, 2), (2, 0)))

    def test_the_same_in_any_order_and_no_meeting_changes_it(self):
        chance = random.Random(211)
        stays = 0
        for hall, stand, wish in wishes(212, 600, **MIDDLE):
            word, told = lessons(hall, stand, wish)
            if word == "row":
                continue
            stays += told != stand
            for meeting in all_meetings(hall):
                self.assertEqual(slow_row(hall, told, (meeting,)), told, (hall, stand))
            for _ in range(5):
                passed = stand
                while passed != told:
                    meetings = all_meetings(hall)
                    chance.shuffle(meetings)
                    coming = slow_row(hall, passed, meetings)
                    self.assertNotEqual(coming, passed, (hall, stand, wish))
                    passed = coming
            for reached in slow_reached(hall, stand):
                self.assertTrue(no_less(told, reached), (hall, stand))
                self.assertFalse(no_less(reached, wish), (hall, stand, wish))
        self.assertGreater(stays, 20)

    def test_kinds(self):
        words = set()
        for hall, stand, wish in wishes(213, 150, **MIDDLE):
            told = lessons(hall, stand, wish)
            self.assertEqual((type(told), len(told)), (tuple, 2))
            words.add(told[0])
            if told[0] == "row":
                self.assertIs(type(told[1]), list)
                for meeting in told[1]:
                    self.assertIs(is_beat(hall, (meeting,)), True)
            else:
                self.assertIs(is_stand(hall, told[1]), True)
        self.assertEqual(words, {"row", "stay"})


class TestTooMany(unittest.TestCase):
    def refused(self, kind, *handed):
        with self.assertRaises(LoreError) as caught:
            lessons(*handed)
        self.assertIs(type(caught.exception), kind, handed)
        return caught.exception

    def test_halls_of_all_sizes(self):
        for hall in halls_of_all_sizes():
            # A row that is empty, a row that isn't, and no row.
            one = ((1,) * len(hall[1]),) + bare(hall)[1:]
            other = bare(hall)[:1] + one[:1] + bare(hall)[2:]
            for stand, wish, word in ((one, one, "row"), (one, other, "row"), (bare(hall), one, "stay")):
                if how_many(hall) > 2000:
                    refusal = self.refused(TooMany, hall, stand, wish)
                    self.assertEqual((type(refusal.most), refusal.most), (int, 2000))
                else:
                    self.assertEqual(lessons(hall, stand, wish)[0], word, hall)

    def test_ahead_of_looking_but_behind_the_other_refusals(self):
        self.refused(TooMany, GREAT, full(GREAT), bare(GREAT))
        self.refused(TooMany, GREAT, bare(GREAT), bare(GREAT))
        self.refused(NoStand, GREAT, full(GREAT), None)
        self.refused(NoStand, GREAT, None, bare(GREAT))
        self.refused(NoHall, list(GREAT), full(GREAT), bare(GREAT))

    def test_never_of_the_judging(self):
        chance = random.Random(221)
        one = ((1, 1, 1),) + bare(GREAT)[1:]
        row = [(0, who, thing) for who in (1, 2, 3) for thing in (0, 1, 2)] * 3
        row += [(1, 0, thing) for thing in (0, 1, 2)] * 2
        self.assertIs(is_shown(GREAT, one, full(GREAT), ("row", row)), True)
        self.assertIs(is_shown(GREAT, one, full(GREAT), ("row", row[:-1])), False)
        self.assertIs(is_shown(GREAT, one, full(GREAT), ("stay", full(GREAT))), False)
        self.assertIs(is_shown(GREAT, bare(GREAT), one, ("stay", bare(GREAT))), True)
        self.assertIs(is_shown(GREAT, bare(GREAT), one, ("stay", one)), False)
        self.assertIs(is_shown(GREAT, bare(GREAT), one, None), False)
        for hall in halls_of_all_sizes():
            stand, wish = some_stand(chance, hall), some_stand(chance, hall)
            known = [any(row[thing] for row in stand) for thing in range(len(hall[1]))]
            last = tuple(tuple(cap if knows else 0 for knows, cap in zip(known, full(hall)[0])) for _ in stand)
            self.assertIs(is_shown(hall, stand, wish, ("stay", last)), not no_less(last, wish), (hall, stand, wish))
            self.assertIs(is_shown(hall, wish, wish, ("row", [])), True)


class TestIsShown(unittest.TestCase):
    def shown(self, due, stand, wish, paper, hall=HALL):
        self.assertIs(is_shown(hall, stand, wish, paper), due, (hall, stand, wish, paper))

    def test_any_row_that_brings_it(self):
        wish = ((0, 0), (0, 1))
        row = [(0, 1, 0), (0, 1, 1)]
        self.shown(True, STAND, wish, ("row", row))
        # Longer than the fewest, beyond the wish, and with meetings that are no lessons.
        self.shown(True, STAND, wish, ("row", row + row))
        self.shown(True, STAND, wish, ("row", [(1, 0, 0), (0, 1, 1)] + row + [(1, 0, 1)]))
        self.shown(True, STAND, wish, ("row", row * 2000))
        self.shown(True, STAND, STAND, ("row", [(1, 0, 1)]))
        self.shown(True, STAND, STAND, ("row", []))

    def test_rows_that_do_not_bring_it(self):
        wish = ((0, 0), (0, 1))
        for row in ([], [(0, 1, 0)], [(0, 1, 1)], [(0, 1, 1), (0, 1, 0)], [(0, 1, 1)] * 50, [(0, 1, 0), (1, 0, 1)]):
            self.shown(False, STAND, wish, ("row", row))

    def test_what_is_no_row(self):
        row = [(0, 1, 0), (0, 1, 1)]
        wish = ((0, 0), (0, 1))
        for paper in (
            ("row", tuple(row)), ["row", row], ("row", row, row), ("row",), ("rows", row), ("Row", row), ("", row),
            (row, "row"), ("stay", row), row, "row", ("row", "row"), ("row", None), (["row"], row), (None, row),
            (True, row), (0, row), ("row", row[0]), ("row", [row]), ("row", [[0, 1, 0], [0, 1, 1]]), (("row",), row),
        ):
            self.shown(False, STAND, wish, paper)
        no_meetings = [[0, 1, 0], (0, 0, 0), (0, 2, 0), (2, 0, 0), (0, 1, 2), (0, 1, 0, 0), (0, 1), (-1, 0, 0)]
        for odd in ODD_PARTS + no_meetings:
            for at in range(3):
                self.shown(False, STAND, wish, ("row", row[:at] + [odd] + row[at:]))
                self.shown(False, STAND, bare(HALL), ("row", row[:at] + [odd] + row[at:]))
        # True and False are no folk and no things.
        for odd in ((False, 1, 0), (0, True, 0), (0, 1, False), (0, 1, True)):
            self.shown(False, STAND, bare(HALL), ("row", [odd]))

    def test_the_stand_that_stays(self):
        stand, wish = ((1, 1), (0, 0)), ((0, 2), (0, 0))
        last = ((2, 1), (2, 0))
        self.shown(True, stand, wish, ("stay", last))
        for other in all_stands(HALL):
            self.shown(other == last, stand, wish, ("stay", other))
        for wish in all_stands(HALL):
            self.shown(not no_less(last, wish), stand, wish, ("stay", last))

    def test_what_is_no_stand_that_stays(self):
        stand, wish, last = ((1, 1), (0, 0)), ((0, 2), (0, 0)), ((2, 1), (2, 0))
        for paper in (
            ["stay", last], ("stay", list(last)), ("stay", last, last), ("stay",), "stay", last, ("row", last),
            ("Stay", last), ("stays", last), (last, "stay"), ("stay", [last]), ("stay", (last,)), ("stay", None),
            ("stay", ((2, True), (2, 0))), ("stay", ((2, 1), (2, False))), ("stay", ([2, 1], [2, 0])),
            (("stay",), last),
        ):
            self.shown(False, stand, wish, paper)

    def test_not_both(self):
        for hall, stand, wish in wishes(231, 200, **MIDDLE):
            stay = slow_stay(hall, stand)
            row = all_meetings(hall) * 20
            brings = no_less(stay, wish)
            self.shown(brings, stand, wish, ("row", row), hall)
            self.shown(not brings, stand, wish, ("stay", stay), hall)

    def test_against_the_document_said_again(self):
        chance = random.Random(232)
        outcomes = []
        for hall, stand, wish in wishes(233, 400, **MIDDLE):
            told = lessons(hall, stand, wish)
            self.assertIs(slow_is_shown(hall, stand, wish, told), True, (hall, stand, wish))
            papers = [told, ("stay", stand), ("stay", wish), ("stay", some_stand(chance, hall)), ("row", [])]
            papers += [("row", list(some_beat(chance, hall) + some_beat(chance, hall))) for _ in range(3)]
            if told[0] == "row":
                papers += [("row", told[1][:at] + told[1][at + 1:]) for at in range(len(told[1]))]
                papers += [("row", told[1][::-1]), ("row", told[1] + told[1])]
            for paper in papers:
                due = slow_is_shown(hall, stand, wish, paper)
                self.shown(due, stand, wish, paper, hall)
                outcomes.append((paper[0], due))
        for outcome in itertools.product(("row", "stay"), (True, False)):
            self.assertGreater(outcomes.count(outcome), 50, outcome)

    def test_a_row_of_the_fewest_with_one_left_out_never_will_do(self):
        for hall, stand, wish in wishes(234, 200, **MIDDLE):
            word, row = lessons(hall, stand, wish)
            if word == "row":
                for at in range(len(row)):
                    self.shown(False, stand, wish, ("row", row[:at] + row[at + 1:]), hall)

    def test_anything(self):
        for thing in ANYTHING + ODD_PARTS:
            self.shown(False, STAND, full(HALL), thing)
            for word in ("row", "stay", thing):
                for wish in (STAND, full(HALL)):
                    self.shown(slow_is_shown(HALL, STAND, wish, (word, thing)), STAND, wish, (word, thing))
        stay = ("stay", ((2, 1), (2, 0)))
        shown = [
            written(thing) for thing in changed(stay) if is_shown(HALL, ((1, 1), (0, 0)), ((0, 2), (0, 0)), thing)
        ]
        # Of all that comes by a change only what comes by none is shown.
        self.assertEqual(set(shown), {written(stay)})


class TestOwn(unittest.TestCase):
    """[2]: nothing that is handed in is changed; a told list is the asker's own."""

    def test_a_told_list_may_be_changed(self):
        for wish, due in ((((0, 0), (0, 1)), [(0, 1, 0), (0, 1, 1)]), (STAND, [])):
            told = lessons(HALL, STAND, wish)
            self.assertEqual(told, ("row", due))
            told[1].append("changed")
            told[1].reverse()
            self.assertEqual(lessons(HALL, STAND, wish), ("row", due))
            self.assertIsNot(lessons(HALL, STAND, wish)[1], lessons(HALL, STAND, wish)[1])

    def test_nothing_changed_and_twice_the_same(self):
        for hall, stand, wish in wishes(241, 150, **MIDDLE):
            text = written((hall, stand, wish))
            told = lessons(hall, stand, wish)
            self.assertEqual(written(lessons(hall, stand, wish)), written(told))
            paper = written(told)
            self.assertIs(is_shown(hall, stand, wish, told), True)
            self.assertIs(is_shown(hall, stand, wish, told), True)
            self.assertEqual(written(told), paper)
            self.assertEqual(written((hall, stand, wish)), text)

    def test_a_paper_that_is_judged_is_not_changed(self):
        row = [(0, 1, 0), (0, 1, 1)]
        papers = [("row", row), ("row", [row, [1, [2]]]), ["row", [[0, 1, 0]]], ("stay", [[2, 1], [2, 0]])]
        for thing in ANYTHING + papers:
            before = copy.deepcopy(thing)
            is_shown(HALL, STAND, full(HALL), thing)
            self.assertEqual(written(thing), written(before))

    def test_a_row_changed_behind_the_judging_is_judged_anew(self):
        wish = ((0, 0), (0, 1))
        row = [(0, 1, 0), (0, 1, 1)]
        self.assertIs(is_shown(HALL, STAND, wish, ("row", row)), True)
        row.reverse()
        self.assertIs(is_shown(HALL, STAND, wish, ("row", row)), False)
        row.reverse()
        self.assertIs(is_shown(HALL, STAND, wish, ("row", row)), True)


if __name__ == "__main__":
    unittest.main()
