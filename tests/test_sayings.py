"""How sayings are made, and what they tell of themselves."""

from highestsky.charts import Chart
from highestsky.errors import InvalidGauge, InvalidMirror, InvalidNumber, InvalidPlace, InvalidRegion, OffChart
from highestsky.mirrors import MIRRORS, mirrored_place
from highestsky.sayings import (
    KINDS, Saying, at_least, at_most, exactly, if_then, level, squall_least, squall_most, under,
)
from tests.helpers import CALM_WIND, NO_REGIONS, Case, any_values, sample_charts

R = [(1, 0, 0), (0, 1, 2), (1, 0, 0)]
Q = ((8, 5, 5),)
KEPT = ((0, 1, 2), (1, 0, 0))
P = (0, 1, 2)

# For each kind: how it is made of its numbers, its least and its greatest number, how many numbers, its regions.
MAKERS = {
    "atmost": (lambda *numbers, **named: at_most(R, *numbers, **named), 0, 99, 1, [KEPT]),
    "atleast": (lambda *numbers, **named: at_least(R, *numbers, **named), 1, 100, 1, [KEPT]),
    "exactly": (lambda *numbers, **named: exactly(R, *numbers, **named), 0, 99, 1, [KEPT]),
    "under": (lambda *numbers, **named: under(R, Q, *numbers, **named), -100, 99, 1, [KEPT, Q]),
    "level": (lambda *numbers, **named: level(R, Q, *numbers, **named), -99, 99, 1, [KEPT, Q]),
    "ifthen": (lambda amount, least, **named: if_then(R, amount, Q, least, **named), 1, 100, 2, [KEPT, Q]),
    "squallmost": (lambda *numbers, **named: squall_most(P, *numbers, **named), 0, 99, 1, [(P,)]),
    "squallleast": (lambda *numbers, **named: squall_least(P, *numbers, **named), 1, 100, 1, [(P,)]),
}

# For each function: the names of its regions or of its place, and of its numbers, in the order of its parameters.
FUNCTIONS = [
    (at_most, ["region", "limit"]), (at_least, ["region", "amount"]), (exactly, ["region", "limit"]),
    (under, ["region", "other", "more"]), (level, ["region", "other", "more"]),
    (if_then, ["region", "amount", "other", "least"]), (squall_most, ["place", "limit"]),
    (squall_least, ["place", "amount"]),
]
REGION_WORDS = ["region", "other"]
WRONG_GAUGES = [value for value in any_values() if value is not None and value != "end"] + ["Abc", "a1", "ab\n", ("a",)]


def good(words):
    """Good arguments with these names."""
    table = {"region": R, "other": Q, "place": P}
    return {word: table.get(word, 7) for word in words}


def sample_sayings():
    found = []
    for kind in KINDS:
        make, least, most, many, _ = MAKERS[kind]
        for gauge in [None, "a"]:
            for number in [least, least + 1, most]:
                found.append(make(*[number] * many, gauge=gauge))
    found.append(if_then(R, 3, Q, 5))
    found.append(if_then(Q, 3, R, 5))
    found.append(under(Q, R, 3))
    return found


class Making(Case):
    def test_kinds(self):
        self.same(KINDS, ("atmost", "atleast", "exactly", "under", "level", "ifthen", "squallmost", "squallleast"))

    def test_what_is_told(self):
        for kind, (make, least, most, many, regions) in MAKERS.items():
            for number in sorted({least, 1, 50, most}):
                saying = make(*[number] * many)
                self.assertIsInstance(saying, Saying)
                self.same([saying.kind, saying.gauge, saying.numbers()], [kind, None, [number] * many])
                self.same(saying.regions(), regions)
                self.same(repr(saying), f"Saying({kind})")
                self.same(make(*[number] * many, gauge="abcdef").gauge, "abcdef")
                self.same(make(*[number] * many, gauge=None).gauge, None)

    def test_amount_stands_ahead_of_least(self):
        self.same(if_then(R, 3, Q, 5).numbers(), [3, 5])
        self.same(if_then(R, 100, Q, 1).numbers(), [100, 1])

    def test_by_name(self):
        for call, words in FUNCTIONS:
            arguments = good(words)
            made = call(*arguments.values(), gauge="a")
            self.assertEqual(call(**dict(reversed(arguments.items())), gauge="a"), made)
            with self.assertRaises(TypeError):
                call(*arguments.values(), "a")

    def test_numbers_beyond_the_bounds(self):
        for make, least, most, many, _ in MAKERS.values():
            wrong = [least - 1, most + 1, -101, 101, 10 ** 9, True, False, None, "1", (1,), [1], R, Chart([[0]])]
            for number in wrong:
                self.refused(InvalidNumber(number), make, *[number] * many)

    def test_the_first_wrong_number(self):
        for number in [0, 101, True, None, "1"]:
            self.refused(InvalidNumber(number), if_then, R, number, Q, 1)
            self.refused(InvalidNumber(number), if_then, R, 1, Q, number)
            self.refused(InvalidNumber(number), if_then, R, number, Q, -5)
            self.refused(InvalidNumber(-5), if_then, R, -5, Q, number)

    def test_wrong_gauges(self):
        for call, words in FUNCTIONS:
            for gauge in WRONG_GAUGES:
                self.refused(InvalidGauge(gauge), call, **good(words), gauge=gauge)
            for gauge in ["a", "abcdef", "by", "end", "none"]:
                self.same(call(**good(words), gauge=gauge).gauge, gauge)

    def test_wrong_regions(self):
        for call, words in FUNCTIONS:
            for word in [word for word in words if word in REGION_WORDS]:
                for value in NO_REGIONS:
                    self.refused(InvalidRegion(-1), call, **{**good(words), word: value})
                for value in any_values():
                    self.refused(InvalidRegion(0), call, **{**good(words), word: [value]})
                    self.refused(InvalidRegion(0), call, **{**good(words), word: (value, P, value)})
                    self.refused(InvalidRegion(2), call, **{**good(words), word: [P, P, value, None]})
                    self.refused(InvalidRegion(39), call, **{**good(words), word: [P] * 39 + [value]})
                self.refused(InvalidRegion(0), call, **{**good(words), word: P})

    def test_wrong_places(self):
        for call in [squall_most, squall_least]:
            for value in [*any_values(), [P], (P,), list(P), (9, 0, 0), (0, 6, 0), (0, 0, 6), (True, 0, 0), "0.0.0"]:
                self.refused(InvalidPlace(value), call, value, 1)
                self.refused(InvalidPlace(value), call, value, -1, gauge=1)
            self.same(call((8, 5, 5), 1).regions(), [((8, 5, 5),)])

    def test_order_of_errors(self):
        wrong_gauge = {"gauge": "A"}
        for call, words in FUNCTIONS:
            numbers = {word: -200 for word in words if word not in [*REGION_WORDS, "place"]}
            self.refused(InvalidNumber(-200), call, **{**good(words), **numbers}, **wrong_gauge)
            if "region" in words:
                named = {**good(words), **numbers, **wrong_gauge}
                self.refused(InvalidRegion(-1), call, **{**named, "region": []})
                self.refused(InvalidRegion(1), call, **{**named, "region": [P, 0, 0]})
            if "other" in words:
                self.refused(InvalidRegion(-1), call, **{**named, "other": []})
                self.refused(InvalidRegion(1), call, **{**named, "other": [P, 0, 0]})
                self.refused(InvalidRegion(1), call, **{**named, "region": [P, 0], "other": []})
                self.refused(InvalidRegion(-1), call, **{**named, "region": None, "other": [0]})


class Regions(Case):
    def test_kept_in_order_and_once(self):
        places = [(0, 0, 5), (0, 1, 0), (1, 0, 0), (8, 5, 5)]
        for call, words in FUNCTIONS:
            for at, word in enumerate([word for word in words if word in REGION_WORDS]):
                for region in [places, places[::-1], tuple(places * 10), [*places[2:], *places[:3]]]:
                    saying = call(**{**good(words), word: region})
                    self.same(saying.regions()[at], tuple(places))

    def test_forty_places(self):
        places = [(hour, row, 0) for hour in range(8) for row in range(5)]
        self.same(at_most(places[::-1], 1).regions(), [tuple(places)])
        self.same(at_most([P] * 40, 1).regions(), [(P,)])
        self.same(at_most([P], 1).regions(), [(P,)])
        # More than 40 items are refused, however few places they are.
        self.refused(InvalidRegion(-1), at_most, [P] * 41, 1)
        self.refused(InvalidRegion(-1), at_most, [*places, P], 1)

    def test_copies(self):
        region = list(R)
        saying = under(region, region, 4)
        self.same(region, R)
        region.clear()
        saying.regions().clear()
        saying.numbers().append(3)
        saying.parts().clear()
        saying.opposites().clear()
        self.same([saying.regions(), saying.numbers()], [[KEPT, KEPT], [4]])
        self.same([len(saying.parts()), len(saying.opposites())], [1, 1])


class Kinds(Case):
    def test_kinds_of_kinds(self):
        for kind, (make, least, most, many, _) in MAKERS.items():
            saying = make(*[least] * many)
            self.same(saying.is_ceiling(), kind in ["atmost", "under", "ifthen", "squallmost"])
            self.same(saying.is_floor(), kind in ["atleast", "squallleast"])
            self.same(saying.is_simple(), kind not in ["exactly", "level"])
            self.same(saying.is_plain(), kind not in ["under", "level", "ifthen"])


class Parts(Case):
    def test_simple_sayings(self):
        for saying in sample_sayings():
            if saying.is_simple():
                parts = saying.parts()
                self.assertIsInstance(parts, list)
                self.assertEqual(parts, [saying])

    def test_exactly(self):
        for gauge in [None, "a"]:
            for limit in [1, 50, 99]:
                wanted = [at_most(R, limit, gauge=gauge), at_least(R, limit, gauge=gauge)]
                self.assertEqual(exactly(R, limit, gauge=gauge).parts(), wanted)
            self.assertEqual(exactly(R, 0, gauge=gauge).parts(), [at_most(R, 0, gauge=gauge)])

    def test_level(self):
        for gauge in [None, "a"]:
            for more in [-99, -1, 0, 1, 99]:
                wanted = [under(R, Q, more, gauge=gauge), under(Q, R, -more, gauge=gauge)]
                self.assertEqual(level(R, Q, more, gauge=gauge).parts(), wanted)


class Opposites(Case):
    def test_each_kind(self):
        for limit in [0, 1, 50, 99]:
            self.opposed(at_most(R, limit, gauge="a"), [(at_least(R, limit + 1),)])
            self.opposed(squall_most(P, limit, gauge="a"), [(squall_least(P, limit + 1),)])
        for amount in [1, 2, 50, 100]:
            self.opposed(at_least(R, amount, gauge="a"), [(at_most(R, amount - 1),)])
            self.opposed(squall_least(P, amount, gauge="a"), [(squall_most(P, amount - 1),)])
        for limit in [1, 50, 99]:
            self.opposed(exactly(R, limit, gauge="a"), [(at_most(R, limit - 1),), (at_least(R, limit + 1),)])
        self.opposed(exactly(R, 0, gauge="a"), [(at_least(R, 1),)])
        for more in [-100, -99, -1, 0, 1, 98, 99]:
            self.opposed(under(R, Q, more, gauge="a"), [(under(Q, R, -more - 1),)])
        for more in [-99, -1, 0, 1, 99]:
            self.opposed(level(R, Q, more, gauge="a"), [(under(R, Q, more - 1),), (under(Q, R, -more - 1),)])
        for amount, least in [(1, 1), (1, 100), (100, 1), (3, 5)]:
            self.opposed(if_then(R, amount, Q, least, gauge="a"), [(at_least(R, amount), at_most(Q, least - 1))])

    def opposed(self, saying, wanted):
        found = saying.opposites()
        self.assertIsInstance(found, list)
        for sayings in found:
            self.assertIsInstance(sayings, tuple)
            for other in sayings:
                self.same([other.gauge, other.is_simple()], [None, True])
        self.assertEqual(found, wanted)
        self.assertEqual(saying.with_gauge(None).opposites(), wanted)


class Gauges(Case):
    def test_with_gauge(self):
        for saying in sample_sayings():
            for gauge in [None, "b", "abcdef"]:
                other = saying.with_gauge(gauge)
                self.same([other.kind, other.gauge, other.numbers(), other.regions()],
                          [saying.kind, gauge, saying.numbers(), saying.regions()])
                self.assertEqual(other.with_gauge(gauge=saying.gauge), saying)

    def test_the_saying_stays(self):
        saying = at_most(R, 1, gauge="a")
        saying.with_gauge("b")
        self.same(saying.gauge, "a")

    def test_wrong_gauges(self):
        for gauge in WRONG_GAUGES:
            self.refused(InvalidGauge(gauge), at_most(R, 1, gauge="a").with_gauge, gauge)


class Moved(Case):
    def test_each_mirror(self):
        for chart in sample_charts():
            places = chart.places()
            for how in MIRRORS:
                region, other = places[:3], places[-2:]
                there = [mirrored_place(chart, place, how) for place in region]
                away = [mirrored_place(chart, place, how) for place in other]
                for call, words in FUNCTIONS:
                    before = {**good(words), "region": region, "other": other, "place": region[0]}
                    behind = {**good(words), "region": there, "other": away, "place": there[0]}
                    saying = call(**{word: before[word] for word in words}, gauge="a")
                    found = saying.moved(chart, how)
                    self.assertEqual(found, call(**{word: behind[word] for word in words}, gauge="a"))
                    for kept in found.regions():
                        self.same(kept, tuple(sorted(set(kept))))

    def test_regions_are_ascending_again(self):
        chart = Chart([[0, 0, 0]])
        saying = at_most([(0, 0, 0), (0, 0, 1)], 3, gauge="a")
        self.same(saying.moved(how="columns", chart=chart).regions(), [((0, 0, 1), (0, 0, 2))])
        self.same(saying.regions(), [((0, 0, 0), (0, 0, 1))])

    def test_wrong_mirrors(self):
        chart = Chart([[0]], [CALM_WIND] * 8)
        for how in [*any_values(), "row", "Rows", ("rows",), ["rows"], MIRRORS]:
            self.refused(InvalidMirror(how), at_most([(0, 0, 0)], 1).moved, chart, how)
            self.refused(InvalidMirror(how), at_most([(0, 0, 1)], 1).moved, chart, how)

    def test_off_the_chart(self):
        chart = Chart([[0, None, 0]], [CALM_WIND])
        for how in MIRRORS:
            for call, words in FUNCTIONS:
                if words[0] == "place":
                    self.refused(OffChart((0, 0, 1)), call((0, 0, 1), 1).moved, chart, how)
                else:
                    saying = call(**{**good(words), "region": [(2, 0, 0), (0, 0, 2), (0, 0, 1), (0, 1, 0)]})
                    self.refused(OffChart((0, 0, 1)), saying.moved, chart, how)
                if "other" in words:
                    saying = call(**{**good(words), "region": [(0, 0, 0)], "other": [(8, 0, 0), (0, 5, 0), (1, 0, 2)]})
                    self.refused(OffChart((0, 5, 0)), saying.moved, chart, how)
                    saying = call(**{**good(words), "region": [(8, 0, 0)], "other": [(0, 0, 1)]})
                    self.refused(OffChart((8, 0, 0)), saying.moved, chart, how)


class Texts(Case):
    def test_each_kind(self):
        wanted = {
            "atmost 4 0.1.2+1.0.0": at_most(R, 4), "atleast 100 0.1.2+1.0.0": at_least(R, 100),
            "exactly 0 8.5.5": exactly(Q, 0), "under -3 0.1.2+1.0.0 8.5.5": under(R, Q, -3),
            "under 0 8.5.5 0.1.2+1.0.0": under(Q, R, 0), "under 99 8.5.5 8.5.5": under(Q, Q, 99),
            "level -99 0.1.2+1.0.0 8.5.5": level(R, Q, -99), "level 10 8.5.5 0.1.2+1.0.0": level(Q, R, 10),
            "ifthen 3 0.1.2+1.0.0 5 8.5.5": if_then(R, 3, Q, 5), "squallmost 0 0.1.2": squall_most(P, 0),
            "squallleast 1 0.1.2": squall_least(P, 1),
        }
        for text, saying in wanted.items():
            self.same([saying.text(), str(saying), f"{saying}"], [text] * 3)
            other = saying.with_gauge("abc")
            self.same([other.text(), str(other)], [f"by abc {text}"] * 2)


class Signs(Case):
    def test_equal_sayings(self):
        for one, other in zip(sample_sayings(), sample_sayings()):
            self.assertTrue(one == other)
            self.assertFalse(one != other)
        self.assertEqual(at_most(R, 1), at_most(list(KEPT), 1))

    def test_different_sayings(self):
        sayings = sample_sayings()
        for at, one in enumerate(sayings):
            for below, other in enumerate(sayings):
                if at != below and str(one) != str(other):
                    self.assertFalse(one == other)
                    self.assertTrue(one != other)
        self.assertNotEqual(at_most(R, 1), at_most(Q, 1))
        self.assertNotEqual(at_most(R, 1), at_most(R, 2))
        self.assertNotEqual(at_most(R, 1), at_least(R, 1))
        self.assertNotEqual(at_most(R, 1), at_most(R, 1, gauge="a"))
        self.assertNotEqual(at_most(R, 1, gauge="b"), at_most(R, 1, gauge="a"))
        self.assertNotEqual(under(R, Q, 0), under(Q, R, 0))
        self.assertNotEqual(if_then(R, 1, Q, 2), if_then(R, 2, Q, 1))

    def test_sayings_equal_nothing_else(self):
        for saying in sample_sayings():
            for value in [None, True, 1, str(saying), repr(saying), saying.kind, saying.regions(), (saying,), [saying],
                          Chart([[0]])]:
                self.assertFalse(saying == value)
                self.assertTrue(saying != value)
