"""What several tests share: charts to try, wrong values, and steps and heights worked out from the text alone."""

import random
import unittest

from highestsky.charts import Chart


class Case(unittest.TestCase):
    def refused(self, wanted, call, *args, **named):
        """Checks that a call raises just this error: its class, and its attributes with their kinds."""
        try:
            answer = call(*args, **named)
        except Exception as found:
            self.assertIs(type(found), type(wanted), repr(found))
            self.assertEqual(repr(vars(found)), repr(vars(wanted)))
            self.assertEqual(found.code, type(wanted).__name__)
            return
        self.fail(f"{answer!r} in place of {wanted!r}")

    def same(self, found, wanted):
        """Checks that two values are equal and of the same kinds, also within lists, tuples and dicts."""
        self.assertEqual(found, wanted)
        self.assertEqual(repr(found), repr(wanted))


CALM_WIND = (0, 0, 0, 0, 0)


def any_values():
    """Values of all kinds that any value may have, none of which is a cell, a place, a name or a wind."""
    return [
        None, True, False, 0, -1, 5, 10 ** 9, "", "A", "abcdefg", "a b", "end", (), (0,), (0, True), (True, 0), (0, -1),
        (0, 6), (6, 0), (0, "0"), (None, 0), (0, True, 0), (True, 0, 0), (0, 0, False), (9, 0, 0), (0, 6, 0),
        (0, 0, 6), (-1, 0, 0), (0, 0, "0"), (0, 0, None), (0, (0, 0)), ((0, 0), 0), (0, 0, 0, 0), (0, 0, 0, 0, 100),
        (0, 0, 0, 0, -1), (0, 0, 0, 0, True), (0, 0, 0, 0, "0"), [0, 0], [0, 0, 0], [0, 0, 0, 0, 0], [[0, 0, 0]],
        ((0, 0, 0),), [], [None], ["a"], [[[[]]]], Chart([[0]]), (Chart([[0]]), 0), [Chart([[0]])], (0, [0], 0),
        ([], []), ([0], 0, 0),
    ]


def sample_charts():
    """Small charts of all shapes: with land, barred directions, without winds, and with great losses."""
    found = [
        Chart([[0]]),
        Chart([[0, 1]], [(0, 5, 2, 5, 3)]),
        Chart([[0, None], [2, 1], [None, 3]], [(0, 1, 2, 3, 4), (None, 0, None, 1, 0)], top=12),
        Chart([[0, 1, 2]], [(None, None, 1, None, 0), (1, 0, 0, 0, None), (0, 0, 3, 0, 1)], top=7),
        Chart([[1, 0], [0, 0]], [(None,) * 5, (0, 0, 0, 0, 0)], top=3),
        Chart([[99, 0], [None, 98]], [(99, 1, 0, 2, 99)], top=99),
    ]
    maker = random.Random(5)
    for _ in range(12):
        found.append(random_chart(maker))
    return found


def random_chart(maker, most_side=3, most_hours=3):
    height, width = maker.randint(1, most_side), maker.randint(1, most_side)
    rows = [[maker.choice([None, 0, 0, 1, 2, 3]) for _ in range(width)] for _ in range(height)]
    rows[maker.randrange(height)][maker.randrange(width)] = maker.randint(0, 2)
    winds = [tuple(maker.choice([None, 0, 0, 1, 2, 4]) for _ in range(5)) for _ in range(maker.randint(0, most_hours))]
    return Chart(rows, winds, top=maker.randint(1, 9))


def largest_chart():
    return Chart([[(row + column) % 3 for column in range(6)] for row in range(6)],
                 [(hour % 2, 1, 0, 2, 1) for hour in range(8)], top=99)


def water_of(rows):
    return [(row, column) for row in range(len(rows)) for column in range(len(rows[row]))
            if rows[row][column] is not None]


def places_of(rows, winds):
    return [(hour, row, column) for hour in range(len(winds) + 1) for row, column in water_of(rows)]


def steps_of(rows, winds):
    """A dict from the pairs (place, next place) of all steps to their losses, place by place as [6] says."""
    found = {}
    offsets = [(0, 0), (-1, 0), (0, 1), (1, 0), (0, -1)]
    for start in places_of(rows, winds):
        for end in places_of(rows, winds):
            offset = (end[1] - start[1], end[2] - start[2])
            if end[0] == start[0] + 1 and offset in offsets:
                toll = winds[end[0] - 1][offsets.index(offset)]
                if toll is not None:
                    found[start, end] = rows[end[1]][end[2]] + toll
    return found


def least_losses(rows, winds):
    """A dict from the pairs (p, q) of which the first reaches the second to L(p, q), by all paths."""
    steps = steps_of(rows, winds)
    found = {}
    paths = [(place, place, 0) for place in places_of(rows, winds)]
    while paths:
        start, end, loss = paths.pop()
        found[start, end] = min(loss, found.get((start, end), loss))
        paths.extend((start, after, loss + more) for (ahead, after), more in steps.items() if ahead == end)
    return found
