import random

from highestsky.placetexts import place_text, read_place, read_region, region_text
from tests.helpers import Case, any_values


def all_places():
    return [(hour, row, column) for hour in range(9) for row in range(6) for column in range(6)]


NO_PLACES = [
    "", " ", ".", "..", "...", "0", "0.0", "0.0.", ".0.0", "0..0", "0.0.0.0", "0.0.0.", ".0.0.0", "00.0.0", "0.00.0", "0.0.00",
    "01.0.0", "0.01.0", "0.0.01", "-0.0.0", "-1.0.0", "0.-1.0", "0.0.-1", "+1.0.0", "0.+1.0", "0.0.+1", " 0.0.0", "0.0.0 ",
    "0 .0.0", "0. 0.0", "0.0 .0", "0.0. 0", "0.0.0\n", "\n0.0.0", "9.0.0", "10.0.0", "0.6.0", "0.0.6", "0.10.0", "0.0.10",
    "1000000000.0.0", "0.1000000000.0", "a.0.0", "0.a.0", "0.0.a", "0,0,0", "(0, 0, 0)", "0.0.0,", "0.0.0+", "+0.0.0",
    "0.0.0.0.0.0", "0:0:0", "0-0-0", "0.0x0.0", "0.0_0.0",
]


class Places(Case):
    def test_there_and_back(self):
        for place in all_places():
            self.same(place_text(place), f"{place[0]}.{place[1]}.{place[2]}")
            self.same(read_place(place_text(place)), place)
        self.same([place_text(place=(8, 5, 0)), read_place(text="8.5.0")], ["8.5.0", (8, 5, 0)])

    def test_no_texts_of_places(self):
        for text in NO_PLACES:
            self.same(read_place(text), None)
        self.same(read_place("0.0.0+0.0.1"), None)
        self.same(read_place("0." * 5999), None)

    def test_no_strings(self):
        for value in [*any_values(), (0, 0, 0), [0, 0, 0], ("0.0.0",), ["0.0.0"], ("0", "0", "0")]:
            self.same(read_place(value), None)


class Regions(Case):
    def test_there_and_back(self):
        maker = random.Random(16)
        for many in [1, 2, 3, 10, 39, 40]:
            for _ in range(5):
                region = tuple(sorted(maker.sample(all_places(), many)))
                text = region_text(region)
                self.same(text, "+".join(f"{hour}.{row}.{column}" for hour, row, column in region))
                self.same(read_region(text), region)
        self.same(region_text(region=((0, 1, 2), (1, 0, 0))), "0.1.2+1.0.0")
        self.same(read_region(text="0.1.2+1.0.0"), ((0, 1, 2), (1, 0, 0)))
        self.same(read_region("0.1.2"), ((0, 1, 2),))

    def test_many_places(self):
        for many in [41, 42, 100, 324]:
            self.same(read_region(region_text(tuple(all_places()[:many]))), None)

    def test_order(self):
        for text in ["1.0.0+0.1.2", "0.0.1+0.0.0", "0.1.0+0.0.5", "0.0.0+0.0.2+0.0.1", "0.0.1+0.0.2+0.0.0"]:
            self.same(read_region(text), None)

    def test_places_that_stand_twice(self):
        for text in ["0.0.0+0.0.0", "0.0.0+0.0.1+0.0.1", "0.0.0+0.0.1+0.0.0", "+".join(["0.0.0"] * 40)]:
            self.same(read_region(text), None)

    def test_no_texts_of_regions(self):
        for text in NO_PLACES:
            self.same(read_region(text), None)
            self.same(read_region("0.0.0+" + text), None)
            self.same(read_region(text + "+8.5.5"), None)
        wrong = ["+", "++", "0.0.0++0.0.1", "0.0.0 +0.0.1", "0.0.0+ 0.0.1", "0.0.0 0.0.1", "0.0.0,0.0.1", "0.0.0+0.0.1+",
                 "+0.0.0+0.0.1", "0.0.0-0.0.1", "0.0.0+\n0.0.1", "0.0.0+0.0.1\n", "0.0.0+" * 2000]
        for text in wrong:
            self.same(read_region(text), None)

    def test_no_strings(self):
        for value in [*any_values(), ((0, 0, 0),), [(0, 0, 0)], ("0.0.0",), ["0.0.0", "+", "0.0.1"]]:
            self.same(read_region(value), None)
