from highestsky.errors import InvalidMirror
from highestsky.winds import DIRECTIONS, is_wind, moved_cell
from tests.helpers import Case, any_values


class Winds(Case):
    def test_directions(self):
        self.same(DIRECTIONS, ("stay", "north", "east", "south", "west"))

    def test_right_winds(self):
        for wind in [(0, 0, 0, 0, 0), (99, 99, 99, 99, 99), (None,) * 5, (0, None, 99, 50, None)]:
            self.same(is_wind(wind), True)
        self.same(is_wind(value=(0, 1, 2, 3, 4)), True)

    def test_wrong_items(self):
        for at in range(5):
            for item in [-1, 100, True, False, "0", "-", (), [], (0,), [0], 10 ** 9]:
                wind = [0, 0, 0, 0, 0]
                wind[at] = item
                self.same(is_wind(tuple(wind)), False)

    def test_wrong_lengths_and_kinds(self):
        for length in [0, 1, 4, 6, 10]:
            self.same(is_wind((0,) * length), False)
        for value in [[0, 0, 0, 0, 0], "00000", 0, None, True, ((0, 0, 0, 0, 0),)]:
            self.same(is_wind(value), False)
        for value in any_values():
            self.same(is_wind(value), False)


class MovedCells(Case):
    def test_all_directions(self):
        for cell in [(0, 0), (2, 3), (5, 5), (-1, 0), (6, 9), (-4, 70)]:
            row, column = cell
            found = [moved_cell(cell, direction) for direction in DIRECTIONS]
            self.same(found, [(row, column), (row - 1, column), (row, column + 1), (row + 1, column), (row, column - 1)])

    def test_by_name(self):
        self.same(moved_cell(direction="south", cell=(0, 0)), (1, 0))

    def test_no_direction(self):
        for value in [*any_values(), "North", "north ", "rows", "up", ["north"], ("north",), DIRECTIONS]:
            self.refused(InvalidMirror(value), moved_cell, (0, 0), value)
        self.refused(InvalidMirror(""), moved_cell, (9, 9), "")
