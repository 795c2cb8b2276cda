"""What several tests share: charts to try, wrong values, and steps and heights worked out from the text alone."""

import random
import unittest

from highestsky.charts import Chart
from highestsky.errors import InvalidRegion
from highestsky.skies import Sky


class Case(unittest.TestCase):
    def refused(self, wanted, call, *args, **named):
        """Checks that a call raises just this error: its class, and its attributes with their kinds."""
        try:
            answer = call(*args, **named)
        except Exception as found:
            self.assertIs(type(found), type(wanted), repr(found))
            self.assertEqual(repr(vars(found)), repr(vars(wanted)))
            self.assertEqual(found.code, type(wanted).__name__)
            return
        self.fail(f"{answer!r} in place of {wanted!r}")

    def same(self, found, wanted):
        """Checks that two values are equal and of the same kinds, also within lists, tuples and dicts."""
        self.assertEqual(found, wanted)
        self.assertEqual(repr(found), repr(wanted))


CALM_WIND = (0, 0, 0, 0, 0)


def any_values():
    """Values of all kinds that any value may have, none of which is a cell, a place, a name or a wind."""
    return [
        None, True, False, 0, -1, 5, 10 ** 9, "", "A", "abcdefg", "a b", "end", (), (0,), (0, True), (True, 0), (0, -1),
        (0, 6), (6, 0), (0, "0"), (None, 0), (0, True, 0), (True, 0, 0), (0, 0, False), (9, 0, 0), (0, 6, 0),
        (0, 0, 6), (-1, 0, 0), (0, 0, "0"), (0, 0, None), (0, (0, 0)), ((0, 0), 0), (0, 0, 0, 0), (0, 0, 0, 0, 100),
        (0, 0, 0, 0, -1), (0, 0, 0, 0, True), (0, 0, 0, 0, "0"), [0, 0], [0, 0, 0], [0, 0, 0, 0, 0], [[0, 0, 0]],
        ((0, 0, 0),), [], [None], ["a"], [[[[]]]], Chart([[0]]), (Chart([[0]]), 0), [Chart([[0]])], (0, [0], 0),
        ([], []), ([0], 0, 0),
    ]


def sample_charts():
    """Small charts of all shapes: with land, barred directions, without winds, and with great losses."""
    found = [
        Chart([[0]]),
        Chart([[0, 1]], [(0, 5, 2, 5, 3)]),
        Chart([[0, None], [2, 1], [None, 3]], [(0, 1, 2, 3, 4), (None, 0, None, 1, 0)], top=12),
        Chart([[0, 1, 2]], [(None, None, 1, None, 0), (1, 0, 0, 0, None), (0, 0, 3, 0, 1)], top=7),
        Chart([[1, 0], [0, 0]], [(None,) * 5, (0, 0, 0, 0, 0)], top=3),
        Chart([[99, 0], [None, 98]], [(99, 1, 0, 2, 99)], top=99),
    ]
    maker = random.Random(5)
    for _ in range(12):
        found.append(random_chart(maker))
    return found


def random_chart(maker, most_side=3, most_hours=3):
    height, width = maker.randint(1, most_side), maker.randint(1, most_side)
    rows = [[maker.choice([None, 0, 0, 1, 2, 3]) for _ in range(width)] for _ in range(height)]
    rows[maker.randrange(height)][maker.randrange(width)] = maker.randint(0, 2)
    winds = [tuple(maker.choice([None, 0, 0, 1, 2, 4]) for _ in range(5)) for _ in range(maker.randint(0, most_hours))]
    return Chart(rows, winds, top=maker.randint(1, 9))


def largest_chart():
    return Chart([[(row + column) % 3 for column in range(6)] for row in range(6)],
                 [(hour % 2, 1, 0, 2, 1) for hour in range(8)], top=99)


def water_of(rows):
    return [(row, column) for row in range(len(rows)) for column in range(len(rows[row]))
            if rows[row][column] is not None]


def places_of(rows, winds):
    return [(hour, row, column) for hour in range(len(winds) + 1) for row, column in water_of(rows)]


def steps_of(rows, winds):
    """A dict from the pairs (place, next place) of all steps to their losses, place by place as [6] says."""
    found = {}
    offsets = [(0, 0), (-1, 0), (0, 1), (1, 0), (0, -1)]
    for start in places_of(rows, winds):
        for end in places_of(rows, winds):
            offset = (end[1] - start[1], end[2] - start[2])
            if end[0] == start[0] + 1 and offset in offsets:
                toll = winds[end[0] - 1][offsets.index(offset)]
                if toll is not None:
                    found[start, end] = rows[end[1]][end[2]] + toll
    return found


def least_losses(rows, winds):
    """A dict from the pairs (p, q) of which the first reaches the second to L(p, q), by all paths."""
    steps = steps_of(rows, winds)
    found = {}
    paths = [(place, place, 0) for place in places_of(rows, winds)]
    while paths:
        start, end, loss = paths.pop()
        found[start, end] = min(loss, found.get((start, end), loss))
        paths.extend((start, after, loss + more) for (ahead, after), more in steps.items() if ahead == end)
    return found


def heights_of(chart, squalls):
    """A dict from all places to their heights by a dict of squalls, hour by hour as [7] says."""
    steps = steps_of(chart.rows(), chart.winds())
    found = {}
    for place in places_of(chart.rows(), chart.winds()):
        numbers = [squalls.get(place, 0)]
        for (start, end), loss in steps.items():
            if end == place and found[start] - loss >= 0:
                numbers.append(found[start] - loss)
        found[place] = max(numbers)
    return found


def random_squalls(maker, chart):
    """A list of pairs for a sky, in any order, some of them for one place."""
    return [(place, maker.randint(0, chart.top)) for place in maker.choices(chart.places(), k=maker.randint(0, 6))]


def random_sky(maker, chart):
    return Sky(chart, random_squalls(maker, chart))


def random_region(maker, chart):
    return maker.choices(chart.places(), k=maker.randint(1, 4))


def wrong_places(chart):
    """Values that are no place of a chart, some of them quite like one."""
    hour, row, column = chart.places()[-1]
    return [*any_values(), (hour + 1, row, column), (hour, row, 5), (hour, 5, column), (hour, False, column),
            (False, row, column), [hour, row, column], (hour, row), "0.0.0", chart, [(hour, row, column)],
            ((hour, row, column),)]


# Values that are no list of 1 to 40 items, with which a region is refused as a whole.
NO_REGIONS = [None, True, False, 0, 7, "", "0.0.0", "abc", [], (), [(0, 0, 0)] * 41, ((0, 0, 0),) * 41, [None] * 41,
              {(0, 0, 0): 1}, Chart([[0]])]


class RegionCase(Case):
    def refuses_regions(self, chart, call):
        """Checks how a call that takes a region of a chart refuses wrong ones."""
        for value in NO_REGIONS:
            self.refused(InvalidRegion(-1), call, value)
        good = chart.places()[0]
        for value in wrong_places(chart):
            self.refused(InvalidRegion(0), call, [value])
            self.refused(InvalidRegion(0), call, (value, value, good))
            self.refused(InvalidRegion(2), call, [good, good, value, None])
            self.refused(InvalidRegion(39), call, (good,) * 39 + (value,))
        # A place alone is a tuple of three items that are no places.
        self.refused(InvalidRegion(0), call, good)
