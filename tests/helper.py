"""What several tests need: samples, and the document said a second time, slowly.

The slow functions share no code with the package, and hold a stand as a dict
of (who, thing) to a level, so that a fault in one does not hide in the other.
"""

import itertools
import random

FORTY_FIGURES = 10 ** 40 - 1

DEEP_TUPLE = ()
DEEP_LIST = []
for _ in range(9):
    DEEP_TUPLE = (DEEP_TUPLE,)
    DEEP_LIST = [DEEP_LIST]

# Of each of these it can be asked whether it is a hall, a stand, a beat, a plan.
ANYTHING = [
    0, 1, 2, 3, 4, 5, -1, 10 ** 18, 10 ** 18 + 1, FORTY_FIGURES, -FORTY_FIGURES,
    True, False, None,
    "", " ", "~", "2", "hall", "x" * 200, "((0, 1, 0),)",
    [], (), [[]], [()], ([],), ((),), ((), ()), [[], []], DEEP_TUPLE, DEEP_LIST,
    (1, 2, 3), [1, 2, 3], (None,), (None, None), ("", ""), ("ab", "cd"), (True, False),
    (0, 1, 0), [(0, 1, 0)], ((0, 1, 0), None), (2,), (2, ()), (2, None), (2, "x"), (2, 3),
    (2, (1,)), (2, ((),)), (2, [((), 1, 1, 1)]), [2, (((), 1, 1, 1),)], (2, (((), 1, 1, 1),), 0),
    (FORTY_FIGURES, FORTY_FIGURES, FORTY_FIGURES), ((FORTY_FIGURES,), (FORTY_FIGURES,)),
    (1, (2, [3, ("four", [None, (True, (FORTY_FIGURES,))])])),
]

ODD_PARTS = [
    -1, 0, 1, 2, 3, 4, 5, FORTY_FIGURES, -FORTY_FIGURES, True, False, None, "", "1", "ab",
    (), [], (0,), [0], (1,), (0, 1), (1, 0), (0, 0), (None,), ("",), (True,), ((),), DEEP_TUPLE,
]


def written(thing):
    """A text that tells apart what == does not: 1 and True, a tuple and a list."""
    return repr(thing)


def changed(thing):
    """All that comes of a tuple by putting something odd in the place of one part, or by one part more or less."""
    for part in ODD_PARTS:
        yield part
    if not isinstance(thing, tuple):
        return
    yield list(thing)
    yield thing + thing[-1:]
    yield thing + (0,)
    yield thing[1:]
    yield thing[:-1]
    yield thing[::-1]
    for at, part in enumerate(thing):
        for odd in changed(part):
            yield thing[:at] + (odd,) + thing[at + 1:]


def lores(place):
    """All that can stand in a hall as its thing at place."""
    found = []
    for size in range(place + 1):
        for needs in itertools.combinations(range(place), size):
            for cap in (1, 2, 3):
                for teach in range(1, cap + 1):
                    for loss in range(0, cap + 1):
                        found.append((needs, teach, cap, loss))
    return found


def all_halls():
    """Each hall there is."""
    for folk in (2, 3, 4):
        for many in (1, 2, 3):
            for things in itertools.product(*[lores(place) for place in range(many)]):
                yield (folk, things)


def halls_of_all_sizes():
    """A hall for each number of folk and each row of caps."""
    for folk in (2, 3, 4):
        for many in (1, 2, 3):
            for caps in itertools.product((1, 2, 3), repeat=many):
                yield (folk, tuple(((), 1, cap, 1) for cap in caps))


def how_many(hall):
    """How many stands a hall has."""
    folk, things = hall
    many = 1
    for _, _, cap, _ in things * folk:
        many *= cap + 1
    return many


def all_stands(hall):
    folk, things = hall
    rows = list(itertools.product(*[range(cap + 1) for _, _, cap, _ in things]))
    return list(itertools.product(rows, repeat=folk))


def all_meetings(hall):
    folk, things = hall
    return [
        (one, other, thing)
        for one in range(folk) for other in range(folk) if one != other
        for thing in range(len(things))
    ]


def all_beats(hall, most):
    """Each beat of at most so many meetings."""
    found = []
    for many in range(most + 1):
        found.extend(itertools.product(all_meetings(hall), repeat=many))
    return found


def some_hall(chance, most_folk=4, most_things=3, most_cap=3):
    things = []
    for place in range(chance.randint(1, most_things)):
        cap = chance.randint(1, most_cap)
        needs = tuple(need for need in range(place) if chance.random() < 0.5)
        # Where much is lost at each beat little happens: a small loss is made likelier.
        loss = min(cap, chance.choice((0, 0, 1, 1, 1, 2, 3)))
        things.append((needs, chance.randint(1, cap), cap, loss))
    return (chance.randint(2, most_folk), tuple(things))


def some_stand(chance, hall):
    folk, things = hall
    return tuple(tuple(chance.randint(0, cap) for _, _, cap, _ in things) for _ in range(folk))


def some_beat(chance, hall):
    return tuple(chance.choice(all_meetings(hall)) for _ in range(chance.randint(0, 4)))


def some_plan(chance, hall):
    return tuple(some_beat(chance, hall) for _ in range(chance.randint(1, 4)))


def some_less(chance, stand):
    """A stand than which the other one is no less."""
    return tuple(tuple(chance.randint(0, level) for level in row) for row in stand)


def samples(seed, many, **bounds):
    """So many (hall, stand, plan), the same ones each time."""
    chance = random.Random(seed)
    for _ in range(many):
        hall = some_hall(chance, **bounds)
        yield hall, some_stand(chance, hall), some_plan(chance, hall)


def no_less(stand, other):
    return all(a >= b for row, low in zip(stand, other) for a, b in zip(row, low))


def slow_beat(hall, stand, beat):
    """The stand behind a beat, word by word as the document says it."""
    folk, things = hall
    level = {(who, thing): stand[who][thing] for who in range(folk) for thing in range(len(things))}
    used = set()
    for one, other, thing in beat:
        needs, teach, cap, _ = things[thing]
        if level[one, thing] < teach:
            continue
        if [need for need in needs if level[other, need] == 0]:
            continue
        if level[other, thing] < cap:
            level[other, thing] += 1
        used |= {(one, thing), (other, thing)}
    for who, thing in level:
        if (who, thing) not in used:
            level[who, thing] -= min(level[who, thing], things[thing][3])
    return tuple(tuple(level[who, thing] for thing in range(len(things))) for who in range(folk))


def slow_walk(hall, stand, plan, beats):
    """The stands behind 0, 1 .. beats of the plan."""
    stands = [stand]
    for at in range(beats):
        stands.append(slow_beat(hall, stands[-1], plan[at % len(plan)]))
    return stands


def slow_round(hall, stand, plan):
    """(first, long), found by walking till a stand comes again at the same beat of the plan."""
    walked = [(stand, 0)]
    while True:
        stand, at = walked[-1]
        coming = (slow_beat(hall, stand, plan[at]), (at + 1) % len(plan))
        if coming in walked:
            return walked.index(coming), len(walked) - walked.index(coming)
        walked.append(coming)


def slow_plan(hall, stand, plan):
    """The stand behind all beats of the plan, one after the other."""
    return slow_walk(hall, stand, plan, len(plan))[-1]


def slow_kept(hall, stand, plan):
    """The things that somebody knows at each beat till all has come round."""
    first, long = slow_round(hall, stand, plan)
    walked = slow_walk(hall, stand, plan, first + long)
    return [
        thing for thing in range(len(hall[1]))
        if not [passed for passed in walked if sum(row[thing] for row in passed) == 0]
    ]


def slow_full(hall):
    return tuple(tuple(cap for _, _, cap, _ in hall[1]) for _ in range(hall[0]))


def slow_fall(hall, plan):
    """What the full stand comes to behind 0, 1, 2 .. whole plans, till it stays."""
    stands = [slow_full(hall)]
    while slow_plan(hall, stands[-1], plan) not in stands:
        stands.append(slow_plan(hall, stands[-1], plan))
    # By what the document promises nothing but the last one can come again.
    assert slow_plan(hall, stands[-1], plan) == stands[-1]
    return stands


def slow_is_stand(hall, thing):
    folk, things = hall
    if type(thing) is not tuple or len(thing) != folk:
        return False
    for row in thing:
        if type(row) is not tuple or len(row) != len(things):
            return False
        for level, (_, _, cap, _) in zip(row, things):
            if type(level) is not int or level not in range(cap + 1):
                return False
    return True


def slow_shown(hall, plan, thing, paper):
    """Whether anything is a paper that the thing is lost, word by word as the document says it."""
    if type(paper) is not list or len(paper) < 1:
        return False
    for stand in paper:
        if not slow_is_stand(hall, stand):
            return False
    if paper[0] != slow_full(hall):
        return False
    for at in range(1, len(paper)):
        if not no_less(paper[at], slow_plan(hall, paper[at - 1], plan)):
            return False
    if not no_less(paper[-1], slow_plan(hall, paper[-1], plan)):
        return False
    for stand in slow_walk(hall, paper[-1], plan, len(plan)):
        if {row[thing] for row in stand} == {0}:
            return True
    return False


def slow_row(hall, stand, row):
    """The stand behind meetings one behind the other where nothing wanes: as by a beat, were there no loss."""
    folk, things = hall
    return slow_beat((folk, tuple((needs, teach, cap, 0) for needs, teach, cap, _ in things)), stand, row)


def slow_reached(hall, stand):
    """All stands to which some row leads."""
    found = {stand}
    new = [stand]
    while new:
        tried = [slow_row(hall, passed, (meeting,)) for passed in new for meeting in all_meetings(hall)]
        new = sorted(set(tried) - found)
        found.update(new)
    return found


def slow_stay(hall, stand):
    """The one stand to which some row leads and that no meeting changes."""
    staying = [
        passed for passed in slow_reached(hall, stand)
        if {slow_row(hall, passed, (meeting,)) for meeting in all_meetings(hall)} == {passed}
    ]
    # By what the document promises there is just one.
    assert len(staying) == 1
    return staying[0]


def slow_fewest(hall, stand, wish, known):
    """The fewest meetings from the stand to the wish, counted back from it; None where no row is."""
    if stand not in known and no_less(stand, wish):
        known[stand] = 0
    elif stand not in known:
        behind = {slow_row(hall, stand, (meeting,)) for meeting in all_meetings(hall)} - {stand}
        counts = [slow_fewest(hall, passed, wish, known) for passed in behind]
        known[stand] = min([count + 1 for count in counts if count is not None], default=None)
    return known[stand]


def slow_lessons(hall, stand, wish):
    """The first row of the fewest meetings, each chosen as the first that brings the wish one meeting nearer."""
    known = {}
    fewest = slow_fewest(hall, stand, wish, known)
    if fewest is None:
        return ("stay", slow_stay(hall, stand))
    row = []
    for left in range(fewest, 0, -1):
        for meeting in all_meetings(hall):
            passed = slow_row(hall, stand, (meeting,))
            if slow_fewest(hall, passed, wish, known) == left - 1:
                row.append(meeting)
                stand = passed
                break
    return ("row", row)


def slow_is_meeting(hall, thing):
    if type(thing) is not tuple or [type(part) for part in thing] != [int, int, int]:
        return False
    return thing in all_meetings(hall)


def slow_is_shown(hall, stand, wish, paper):
    """Whether anything shows that lessons bring the wish, or that none do, word by word as the document says it."""
    if type(paper) is not tuple or len(paper) != 2:
        return False
    word, shown = paper
    if type(word) is not str:
        return False
    if word == "row":
        if type(shown) is not list or [thing for thing in shown if not slow_is_meeting(hall, thing)]:
            return False
        return no_less(slow_row(hall, stand, shown), wish)
    if word != "stay" or not slow_is_stand(hall, shown):
        return False
    return shown == slow_stay(hall, stand) and not no_less(shown, wish)


def slow_parted(hall, one, other):
    """(beats, stand) or None, each stand walked by both plans till both have come round together."""
    found = []
    for stand in all_stands(hall):
        walked = {(stand, stand, 0, 0): 0}
        now = (stand, stand, 0, 0)
        while True:
            by_one, by_other, at, other_at = now
            now = (
                slow_beat(hall, by_one, one[at]), slow_beat(hall, by_other, other[other_at]),
                (at + 1) % len(one), (other_at + 1) % len(other),
            )
            if now[0] != now[1]:
                found.append((len(walked), stand))
                break
            if now in walked:
                break
            walked[now] = len(walked)
    return min(found, default=None)
