from highestsky.charts import Chart
from highestsky.words import is_cell, is_list, is_name, is_number, is_place, number_in
from tests.helpers import Case, any_values


class Names(Case):
    def test_lengths(self):
        for length in range(9):
            self.same(is_name("a" * length), 1 <= length <= 6)

    def test_all_lowercase_letters(self):
        for letter in "abcdefghijklmnopqrstuvwxyz":
            self.same(is_name(letter), True)

    def test_other_characters(self):
        for number in range(32, 127):
            if not "a" <= chr(number) <= "z":
                for text in [chr(number), "a" + chr(number), chr(number) + "a", "a" + chr(number) + "b"]:
                    self.same(is_name(text), False)
        self.same(is_name("a\n"), False)
        self.same(is_name("\u00e4"), False)

    def test_other_values(self):
        for value in any_values():
            if value != "end":
                self.same(is_name(value), False)
        self.same(is_name(["a"]), False)
        self.same(is_name(("a", "b")), False)
        self.same(is_name(value="abc"), True)


class Numbers(Case):
    def test_bounds(self):
        for value in range(-5, 9):
            self.same(is_number(value, -2, 4), -2 <= value <= 4)
        self.same(is_number(3, 3, 3), True)
        self.same(is_number(3, 4, 3), False)
        self.same(is_number(value=3, least=0, most=5), True)
        self.same(is_number(10 ** 30, 0, 10 ** 31), True)

    def test_other_values(self):
        for value in any_values():
            if value not in [-1, 0, 5, 10 ** 9] or isinstance(value, bool):
                self.same(is_number(value, -10, 10 ** 10), False)
        self.same(is_number(True, 0, 1), False)
        self.same(is_number(False, 0, 1), False)


class Lists(Case):
    def test_lengths(self):
        for length in range(5):
            self.same(is_list([0] * length, 1, 3), 1 <= length <= 3)
            self.same(is_list((0,) * length, 1, 3), 1 <= length <= 3)

    def test_other_values(self):
        for value in [None, True, 2, "ab", Chart([[0, 1]]), {0: 1}]:
            self.same(is_list(value, 0, 9), False)


class Cells(Case):
    def test_bounds(self):
        for row in range(-2, 9):
            for column in range(-2, 9):
                self.same(is_cell((row, column)), 0 <= row <= 5 and 0 <= column <= 5)

    def test_wrong_values(self):
        for value in any_values():
            self.same(is_cell(value), False)
        for value in [(True, 0), (0, False), (0,), (0, 0, 0), [0, 0], (0, None), ("0", 0), ((0, 0), (0, 0)), "00"]:
            self.same(is_cell(value), False)
        self.same(is_cell(value=(5, 0)), True)


class Places(Case):
    def test_bounds(self):
        for hour in range(-2, 11):
            for row in [-1, 0, 3, 5, 6]:
                for column in [-1, 0, 3, 5, 6]:
                    wanted = 0 <= hour <= 8 and 0 <= row <= 5 and 0 <= column <= 5
                    self.same(is_place((hour, row, column)), wanted)

    def test_wrong_values(self):
        for value in any_values():
            self.same(is_place(value), False)
        for value in [(True, 0, 0), (0, True, 0), (0, 0, True), (0, 0), (0, 0, 0, 0), [0, 0, 0], (0, (0, 0)), "000"]:
            self.same(is_place(value), False)
        self.same(is_place(value=(8, 5, 0)), True)


class NumbersInTexts(Case):
    def test_numbers(self):
        for number in [0, 1, 9, 10, 99, 100, 12345678, 99999999, 100000000, 999999999]:
            self.same(number_in(str(number)), number)
        self.same(number_in(text="7"), 7)

    def test_texts_of_no_number(self):
        wrong = ["", " ", "00", "01", "007", "-1", "+1", "-0", "- 1", " 1", "1 ", "1\n", "\n", "1 2", "1.0", "1_0", "a",
                 "1a", "a1", "0x1", "1000000000", "9999999999", "0000000000", "0" * 9, "1" * 5000, "\u0663", "\u00b2",
                 "/", ":", "1/", "1:"]
        for text in wrong:
            self.same(number_in(text), None)

    def test_other_values(self):
        for value in any_values():
            self.same(number_in(value), None)
        self.same(number_in(["1"]), None)
        self.same(number_in(("1",)), None)
