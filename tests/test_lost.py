"""lost.py [3, 8]: papers that a thing is lost, those that are told and those that are handed in."""

import copy
import random
import unittest

from lorehall.beats import by_plan
from lorehall.halls import bare, full, is_stand
from lorehall.kept import can_be_kept, greatest
from lorehall.lost import lost_paper, lost_shown
from tests.helper import (
    ANYTHING, ODD_PARTS, all_stands, changed, no_less, samples, slow_fall, slow_is_stand, slow_kept, slow_plan,
    slow_shown, some_less, some_stand, written,
)

SMALL = {"most_folk": 2, "most_things": 2, "most_cap": 2}
HALL = (2, (((), 1, 2, 1),))
WANES = ((),)
PAPER = [((2,), (2,)), ((1,), (1,)), ((0,), (0,))]


def lost_samples(seed, many, **bounds):
    """So many (hall, plan, thing, paper), the thing lost and the paper what comes."""
    found = []
    for hall, _, plan in samples(seed, many * 5, **bounds):
        kept = slow_kept(hall, full(hall), plan)
        found.extend([
            (hall, plan, thing, slow_fall(hall, plan)) for thing in range(len(hall[1])) if thing not in kept
        ])
    return found[:many]


def some_greater(chance, hall, stand):
    """A stand that is no less than the stand."""
    return tuple(
        tuple(chance.randint(level, cap) for level, (_, _, cap, _) in zip(row, hall[1])) for row in stand
    )


def loose_paper(chance, hall, plan):
    """A paper whose stands are greater than what comes here and there, till such a one stays no less."""
    stands = [full(hall)]
    # Each is held below the one ahead of it, so that it comes to an end.
    while len(stands) < 40:
        coming = slow_plan(hall, stands[-1], plan)
        if coming == stands[-1]:
            break
        above = some_greater(chance, hall, coming)
        stands.append(tuple(tuple(map(min, row, low)) for row, low in zip(above, stands[-1])))
    return stands


def one_level_other(hall, paper):
    """All papers that have one level one more or one less."""
    for at, stand in enumerate(paper):
        for who, row in enumerate(stand):
            for thing, level in enumerate(row):
                for other in (level - 1, level + 1):
                    levels = row[:thing] + (other,) + row[thing + 1:]
                    yield paper[:at] + [stand[:who] + (levels,) + stand[who + 1:]] + paper[at + 1:]


def stands_moved(paper):
    """All papers with a stand left out, twice, or exchanged with another one."""
    for at, stand in enumerate(paper):
        yield paper[:at] + paper[at + 1:]
        yield paper[:at] + [stand] + paper[at:]
        yield paper[:at]
        yield paper[at:]
        for other in range(at):
            moved = list(paper)
            moved[at], moved[other] = moved[other], moved[at]
            yield moved
    yield paper[::-1]
    yield paper + paper
    yield paper + paper[:1]


class TestLostPaper(unittest.TestCase):
    def test_known_cases(self):
        self.assertEqual(lost_paper(HALL, WANES, 0), PAPER)
        self.assertEqual(lost_paper(HALL, ((), ()), 0), [((2,), (2,)), ((0,), (0,))])
        self.assertIsNone(lost_paper(HALL, (((0, 1, 0),),), 0))
        self.assertIsNone(lost_paper((2, (((), 1, 2, 0),)), WANES, 0))

    def test_it_ends_where_all_stays_though_the_thing_goes_sooner(self):
        hall = (2, (((), 1, 1, 1), ((), 1, 3, 1)))
        due = [((1, 3), (1, 3)), ((0, 2), (0, 2)), ((0, 1), (0, 1)), ((0, 0), (0, 0))]
        self.assertEqual(lost_paper(hall, WANES, 0), due)
        self.assertEqual(lost_paper(hall, WANES, 1), due)

    def test_what_else_is_kept_stays_in_it(self):
        hall = (2, (((), 1, 1, 1), ((), 1, 3, 0)))
        self.assertEqual(lost_paper(hall, WANES, 0), [((1, 3), (1, 3)), ((0, 3), (0, 3))])
        self.assertIsNone(lost_paper(hall, WANES, 1))

    def check(self, hall, plan, thing):
        told = lost_paper(hall, plan, thing)
        if thing in can_be_kept(hall, plan):
            self.assertIsNone(told, (hall, plan, thing))
            return 0
        self.assertIs(type(told), list)
        self.assertEqual(told, slow_fall(hall, plan), (hall, plan, thing))
        self.assertIs(lost_shown(hall, plan, thing, told), True, (hall, plan, thing))
        self.assertIs(slow_shown(hall, plan, thing, told), True, (hall, plan, thing))
        self.assertEqual(told[-1], greatest(hall, plan))
        for at, stand in enumerate(told):
            self.assertIs(is_stand(hall, stand), True)
            self.assertEqual(by_plan(hall, full(hall), plan, at * len(plan)), stand)
        return 1

    def test_great_halls(self):
        lost = [self.check(hall, plan, thing) for hall, _, plan in samples(91, 800) for thing in range(len(hall[1]))]
        self.assertGreater(min(sum(lost), len(lost) - sum(lost)), 300)

    def test_small_halls(self):
        for hall, _, plan in samples(92, 150, **SMALL):
            for thing in range(len(hall[1])):
                lost = self.check(hall, plan, thing)
                kept = [stand for stand in all_stands(hall) if thing in slow_kept(hall, stand, plan)]
                self.assertEqual(lost, 0 if kept else 1, (hall, plan, thing))


class TestLostShown(unittest.TestCase):
    def check(self, hall, plan, thing, paper):
        due = slow_shown(hall, plan, thing, paper)
        self.assertIs(lost_shown(hall, plan, thing, paper), due, (hall, plan, thing, paper))
        return due

    def shown(self, due, paper, plan=WANES, hall=HALL, thing=0):
        self.assertIs(lost_shown(hall, plan, thing, paper), due, (hall, plan, thing, paper))

    def test_what_is_told(self):
        self.shown(True, PAPER)
        self.shown(True, PAPER + PAPER[-1:])

    def test_the_last_one_need_not_stay(self):
        # From ((1,), (1,)) on nobody knows it behind the plan's one beat.
        self.shown(True, PAPER[:2])
        self.shown(False, PAPER[:1])
        self.shown(True, PAPER[:1], ((), ()))
        self.shown(True, [((1,), (1,))], hall=(2, (((), 1, 1, 1),)))

    def test_greater_than_what_comes(self):
        self.shown(True, [((2,), (2,)), ((2,), (1,)), ((1,), (1,)), ((0,), (0,))])
        self.shown(True, [((2,), (2,)), ((2,), (2,)), ((1,), (1,)), ((0,), (0,))])
        self.shown(True, [((2,), (2,)), ((1,), (1,)), ((0,), (1,)), ((0,), (0,))])
        # It may rise again, if only what is behind it is no less than what comes.
        self.shown(True, [((2,), (2,)), ((1,), (1,)), ((2,), (2,)), ((1,), (1,))])
        self.shown(False, [((2,), (2,)), ((1,), (1,)), ((2,), (2,)), ((1,), (0,))])

    def test_each_condition_alone(self):
        self.shown(False, PAPER[1:])
        self.shown(False, [((2,), (2,)), ((0,), (0,))])
        self.shown(False, [((2,), (2,)), ((1,), (0,)), ((0,), (0,))])
        self.shown(False, [((2,), (2,)), ((1,), (1,)), ((1,), (2,))])
        # By what comes of ((1,), (0,)) the second one knows it too: the last one is less than that.
        hall = (3, (((), 1, 1, 1), ((), 1, 1, 1)))
        plan = (((0, 1, 0), (0, 1, 0)),)
        self.shown(True, [full(hall), ((1, 0), (1, 0), (0, 0))], plan, hall, 1)
        self.shown(False, [full(hall), ((1, 0), (1, 0), (0, 0)), ((1, 0), (0, 0), (0, 0))], plan, hall, 1)
        self.shown(False, [full(hall), ((1, 0), (1, 0), (0, 0))], plan, hall, 0)

    def test_the_last_one_is_no_less_than_what_itself_comes_to(self):
        hall = (2, (((), 1, 3, 1), ((), 1, 1, 1)))
        plan = ((), (), ((0, 1, 0),))
        paper = [((3, 1), (3, 1)), ((1, 0), (2, 0)), ((0, 0), (0, 0))]
        self.shown(True, paper, plan, hall, 1)
        # Both are no less than what the one ahead comes to, but of the first one comes ((1, 0), (1, 0)).
        self.shown(False, paper[:2] + [((3, 0), (0, 0))], plan, hall, 1)
        self.shown(True, paper[:2] + [((3, 0), (1, 0))], plan, hall, 1)
        for last in all_stands(hall):
            self.check(hall, plan, 1, paper + [last])

    def test_lost_ahead_of_a_beat_or_behind_the_last(self):
        for plan, due in ((((), ()), True), (((),), False), (((), (), (), ()), True)):
            self.shown(due, PAPER[:1], plan)

    def test_anything(self):
        for thing in ANYTHING + ODD_PARTS:
            self.shown(False, thing)
            self.shown(False, [thing])
            self.shown(False, PAPER[:1] + [thing])
            self.shown(False, [thing] + PAPER)
            self.shown(False, PAPER + [thing])
            self.shown(False, PAPER[:2] + [thing] + PAPER[2:])

    def test_not_quite_a_list_of_stands(self):
        self.shown(False, [])
        self.shown(False, tuple(PAPER))
        self.shown(False, [PAPER])
        self.shown(False, [list(stand) for stand in PAPER])
        self.shown(False, [[list(row) for row in stand] for stand in PAPER])
        self.shown(False, [((2,), (2,)), ((True,), (True,)), ((0,), (0,))])
        self.shown(False, [((2,), (2,)), ((1,), (1,)), ((False,), (False,))])
        self.shown(False, [((3,), (3,)), ((2,), (2,)), ((1,), (1,)), ((0,), (0,))])
        self.shown(False, PAPER + [((-1,), (-1,))])
        self.shown(False, [stand + ((0,),) for stand in PAPER])
        self.shown(False, [stand[:1] for stand in PAPER])
        self.shown(False, [tuple(row + (0,) for row in stand) for stand in PAPER])
        self.shown(False, None)
        self.shown(False, "paper")
        self.shown(False, True)

    def test_a_full_stand_of_truths(self):
        hall = (2, (((), 1, 1, 1),))
        self.shown(True, [((1,), (1,)), ((0,), (0,))], hall=hall)
        self.shown(False, [((True,), (True,)), ((0,), (0,))], hall=hall)

    def test_changed_stands(self):
        for thing in changed(tuple(PAPER)):
            self.check(HALL, WANES, 0, thing)
            if isinstance(thing, tuple):
                self.check(HALL, WANES, 0, list(thing))

    def test_told_papers_with_a_level_more_or_less(self):
        outcomes = []
        for hall, plan, thing, paper in lost_samples(93, 60):
            for tried in one_level_other(hall, paper):
                outcomes.append(self.check(hall, plan, thing, tried))
        self.assertGreater(min(outcomes.count(True), outcomes.count(False)), 200)

    def test_told_papers_with_stands_moved(self):
        outcomes = []
        for hall, plan, thing, paper in lost_samples(94, 150):
            for tried in stands_moved(paper):
                outcomes.append(self.check(hall, plan, thing, tried))
        self.assertGreater(min(outcomes.count(True), outcomes.count(False)), 200)

    def test_stands_of_another_hall(self):
        tried = 0
        papers = lost_samples(95, 80)
        for hall, plan, thing, paper in papers:
            for _, _, _, other in papers:
                if not slow_is_stand(hall, other[0]):
                    self.shown(False, other, plan, hall, thing)
                    self.shown(False, paper + other[:1], plan, hall, thing)
                    tried += 1
        self.assertGreater(tried, 1000)

    def test_right_but_not_the_told_one(self):
        chance = random.Random(96)
        shown = 0
        for hall, plan, thing, paper in lost_samples(97, 400):
            loose = loose_paper(chance, hall, plan)
            if self.check(hall, plan, thing, loose) and loose != paper:
                shown += 1
                self.assertTrue(no_less(loose[-1], paper[-1]))
            for tried in one_level_other(hall, loose[:3] + loose[-1:]):
                self.check(hall, plan, thing, tried)
        self.assertGreater(shown, 100)

    def test_any_stands(self):
        chance = random.Random(98)
        for hall, plan, thing, paper in lost_samples(99, 300):
            low = some_less(chance, paper[-1])
            for tried in (
                [full(hall), some_stand(chance, hall)], [full(hall), low], paper + [low], [low] + paper,
                [full(hall), bare(hall)], paper[:1], paper[:2],
            ):
                self.check(hall, plan, thing, tried)

    def test_no_paper_of_what_is_kept(self):
        chance = random.Random(100)
        for hall, stand, plan in samples(101, 300):
            fall = slow_fall(hall, plan)
            for thing in can_be_kept(hall, plan):
                for tried in (fall, fall + [bare(hall)], fall + [stand], [full(hall)], loose_paper(chance, hall, plan)):
                    self.shown(False, tried, plan, hall, thing)

    def test_all_papers_of_two_stands_of_small_halls(self):
        outcomes = []
        for hall, _, plan in samples(102, 40, **SMALL):
            for thing in range(len(hall[1])):
                for stand in all_stands(hall):
                    outcomes.append(self.check(hall, plan, thing, [full(hall), stand]))
                    self.check(hall, plan, thing, [stand])
        self.assertGreater(min(outcomes.count(True), outcomes.count(False)), 20)

    def test_a_long_paper(self):
        self.shown(True, PAPER[:1] * 3000 + PAPER[1:] + PAPER[2:] * 3000)
        self.shown(False, PAPER[:1] * 3000 + PAPER[2:] * 3000)


class TestOwn(unittest.TestCase):
    """[2]: nothing that is handed in is changed; a told list is the asker's own."""

    def test_a_told_list_may_be_changed(self):
        told = lost_paper(HALL, WANES, 0)
        told[1] = "changed"
        told.append(None)
        self.assertEqual(lost_paper(HALL, WANES, 0), PAPER)
        self.assertIsNot(lost_paper(HALL, WANES, 0), lost_paper(HALL, WANES, 0))
        told.clear()
        self.assertEqual(lost_paper(HALL, WANES, 0), PAPER)

    def test_nothing_changed_and_twice_the_same(self):
        for hall, plan, thing, paper in lost_samples(103, 200):
            text = written((hall, plan, thing, paper))
            first = lost_paper(hall, plan, thing)
            self.assertEqual(written(lost_paper(hall, plan, thing)), written(first))
            self.assertIs(lost_shown(hall, plan, thing, paper), lost_shown(hall, plan, thing, paper))
            self.assertEqual(written((hall, plan, thing, paper)), text)

    def test_a_paper_that_is_judged_is_not_changed(self):
        for thing in ANYTHING + [PAPER, [PAPER], PAPER + [[1, [2]]], [[[2], [2]], [[0], [0]]]]:
            before = copy.deepcopy(thing)
            lost_shown(HALL, WANES, 0, thing)
            self.assertEqual(written(thing), written(before))

    def test_a_paper_changed_behind_the_judging_is_judged_anew(self):
        paper = list(PAPER)
        self.assertIs(lost_shown(HALL, WANES, 0, paper), True)
        paper[1] = ((0,), (1,))
        self.assertIs(lost_shown(HALL, WANES, 0, paper), False)
        paper[1] = ((1,), (1,))
        self.assertIs(lost_shown(HALL, WANES, 0, paper), True)


if __name__ == "__main__":
    unittest.main()
