import random

from highestsky.charts import Chart
from highestsky.lots import Lot
from highestsky.sayings import BOUNDS, KINDS
from highestsky.sayingtexts import read_saying, read_sayings
from tests.helpers import Case, any_values
from tests.worlds import make_saying

R = "0.1.2+1.0.0"
Q = "8.5.5"
P = "0.1.2"

# For each kind, its text with braces for its numbers.
TEXTS = {
    "atmost": "atmost {} " + R, "atleast": "atleast {} " + R, "exactly": "exactly {} " + R,
    "under": "under {} " + R + " " + Q,
    "level": "level {} " + R + " " + Q, "ifthen": "ifthen {} " + R + " {} " + Q, "squallmost": "squallmost {} " + P,
    "squallleast": "squallleast {} " + P,
}
REGIONS = {
    "atmost": [R], "atleast": [R], "exactly": [R], "under": [R, Q], "level": [R, Q], "ifthen": [R, Q],
    "squallmost": [P],
    "squallleast": [P],
}
KEPT = {R: ((0, 1, 2), (1, 0, 0)), Q: ((8, 5, 5),), P: ((0, 1, 2),)}


def random_place(maker):
    return (maker.randint(0, 8), maker.randint(0, 5), maker.randint(0, 5))


def random_saying(maker):
    region, other = [[random_place(maker) for _ in range(maker.choice([1, 2, 3, 40]))] for _ in range(2)]
    return make_saying(maker.choice(KINDS), region, other, maker.randint(-110, 110), maker.randint(-10, 110),
                       maker.choice([None, "a", "by", "atmost"]))


class Saying(Case):
    def refused_texts(self, texts):
        for text in texts:
            self.same(read_saying(text), None)
            self.same(read_saying("by a " + text), None)

    def test_each_kind(self):
        for kind in KINDS:
            many = TEXTS[kind].count("{}")
            for numbers in [(3, 7), (10, 99), (99, 10)]:
                text = TEXTS[kind].format(*numbers[:many])
                for gauge in [None, "a", "abcdef", "by", "atmost", "level"]:
                    said = text if gauge is None else f"by {gauge} {text}"
                    saying = read_saying(said)
                    self.same([saying.kind, saying.gauge, saying.numbers(), saying.regions()],
                              [kind, gauge, list(numbers[:many]), [KEPT[region] for region in REGIONS[kind]]])
                    self.same([saying.text(), str(saying)], [said, said])

    def test_there_and_back(self):
        maker = random.Random(16)
        for _ in range(300):
            saying = random_saying(maker)
            self.same(read_saying(saying.text()) == saying, True)
            self.same(read_saying(text=str(saying)).text(), saying.text())

    def test_bounds(self):
        for kind in KINDS:
            least, most = BOUNDS[kind]
            many = TEXTS[kind].count("{}")
            for at in range(many):
                for number in [least, least + 1, 0, most - 1, most]:
                    if least <= number:
                        numbers = [5] * many
                        numbers[at] = number
                        self.same(read_saying(TEXTS[kind].format(*numbers)).numbers(), numbers)
                for number in [least - 1, most + 1, least - 1000, most + 1000, 10 ** 9, -10 ** 9]:
                    numbers = [5] * many
                    numbers[at] = number
                    self.refused_texts([TEXTS[kind].format(*numbers)])

    def test_bounds_of_the_table(self):
        self.same([read_saying(f"atmost 0 {R}").numbers(), read_saying(f"atmost 99 {R}").numbers()], [[0], [99]])
        self.same([read_saying(f"under -100 {R} {Q}").numbers(), read_saying(f"under 99 {R} {Q}").numbers()],
                  [[-100], [99]])
        self.same([read_saying(f"level -99 {R} {Q}").numbers(), read_saying(f"level 0 {R} {Q}").numbers()],
                  [[-99], [0]])
        self.same(read_saying(f"ifthen 1 {R} 100 {Q}").numbers(), [1, 100])
        self.refused_texts([f"atmost 100 {R}", f"atmost -1 {R}", f"atleast 0 {R}", f"atleast 101 {R}",
                            f"exactly 100 {R}",
                            f"under -101 {R} {Q}", f"under 100 {R} {Q}", f"level -100 {R} {Q}", f"level 100 {R} {Q}",
                            f"ifthen 0 {R} 5 {Q}", f"ifthen 5 {R} 101 {Q}", f"squallmost 100 {P}",
                            f"squallleast 0 {P}"])

    def test_numbers_of_another_form(self):
        for kind in KINDS:
            many = TEXTS[kind].count("{}")
            for at in range(many):
                for word in ["00", "05", "+5", "-0", "-05", "--5", "- 5", "5-", "", "-", "5.0", "5a", "a", "0x5",
                             "5_0", "None",
                             "1e1", "True", "5,", "(5)", R, "0000000005"]:
                    words = ["5"] * many
                    words[at] = word
                    self.refused_texts([TEXTS[kind].format(*words)])

    def test_negative_numbers(self):
        self.same(read_saying(f"under -1 {R} {Q}").numbers(), [-1])
        self.same(read_saying(f"by a level -99 {R} {Q}").numbers(), [-99])
        self.refused_texts([f"atmost -3 {R}", f"ifthen -3 {R} 5 {Q}", f"ifthen 5 {R} -3 {Q}", f"squallleast -3 {P}"])

    def test_words(self):
        for kind in KINDS:
            text = TEXTS[kind].format(5, 6)
            words = text.split(" ")
            self.same(read_saying(text).text(), text)
            for at in range(len(words)):
                self.refused_texts([" ".join([*words[:at], *words[at + 1:]]), " ".join([*words[:at], "", *words[at:]]),
                                    " ".join([*words[:at], words[at], *words[at:]]),
                                    " ".join([*words[:at], words[at].upper() + "A", *words[at + 1:]])])
            self.refused_texts([text + " ", " " + text, text + "\n", "\n" + text, text + " 5", text + " " + R,
                                text.replace(" ", "  "), text.replace(" ", "\n", 1), text.upper(), text[:-1],
                                text.replace(" ", ""),
                                text.replace(" ", "\t", 1), text + "+", text + " by a"])

    def test_kinds(self):
        for kind in ["", "at_most", "atmos", "most", "squall", "AtMost", "if", "parts", "by", "end", "none",
                     "exactly5"]:
            self.refused_texts([f"{kind} 5 {R}", f"{kind} 5 {P}", f"{kind} 5 {R} {Q}", f"{kind} 5 {R} 5 {Q}", kind])

    def test_gauges(self):
        text = f"atmost 5 {R}"
        for gauge in ["", "A", "abcdefg", "a1", "a.b", "1", "-", "a_b", "aB", "a\n"]:
            self.same(read_saying(f"by {gauge} {text}"), None)
        for wrong in [f"bya {text}", f"By a {text}", f"by a  {text}", f"by a by b {text}", f"by  a {text}",
                      f"{text} by a",
                      f"by {text}", f" by a {text}", "by", "by a", "by a ", "by  ", "by a by"]:
            self.same(read_saying(wrong), None)
        self.same(read_saying(f"by abcdef {text}").gauge, "abcdef")

    def test_regions(self):
        many = "+".join(f"0.{row}.{column}" for row in range(6) for column in range(6)) + "+1.0.0+1.0.1+1.0.2+1.0.3"
        self.same(len(read_saying(f"atmost 5 {many}").regions()[0]), 40)
        wrong = ["1.0.0+0.1.2", "0.1.2+0.1.2", "0.1.2+1.0.0+1.0.0", "0.1.2+", "+0.1.2", "0.1.2++1.0.0", "9.0.0",
                 "0.6.0", "0.0.6",
                 "0.0", "0.0.0.0", "00.0.0", "0.1.2,1.0.0", "(0,1,2)", "-1.0.0", "", "R", many + "+1.0.4"]
        for region in wrong:
            self.refused_texts([f"atmost 5 {region}", f"atleast 5 {region}", f"exactly 5 {region}",
                                f"under 5 {region} {Q}",
                                f"under 5 {R} {region}", f"level 5 {region} {Q}", f"level 5 {R} {region}",
                                f"ifthen 5 {region} 5 {Q}", f"ifthen 5 {R} 5 {region}", f"squallmost 5 {region}",
                                f"squallleast 5 {region}"])
        self.refused_texts([f"squallmost 5 {R}", f"squallleast 5 {R}", f"squallmost 5 {P}+1.0.0",
                            f"squallmost 5 {P} {Q}"])

    def test_places_need_no_chart(self):
        self.same(read_saying("squallmost 5 8.5.5").regions(), [((8, 5, 5),)])

    def test_no_strings(self):
        saying = read_saying(f"atmost 5 {R}")
        for value in [*any_values(), saying, [f"atmost 5 {R}"], (f"atmost 5 {R}",), ["atmost", "5", R],
                      Lot(Chart([[0]]))]:
            self.same(read_saying(value), None)
        self.same(read_saying("atmost 5 " * 1333), None)


class Sayings(Case):
    def test_no_line(self):
        self.same(read_sayings(""), [])

    def test_lines(self):
        lines = [TEXTS[kind].format(5, 6) + "\n" for kind in KINDS] + [f"by a atmost 5 {R}\n", f"atmost 5 {R}\n"]
        for many in range(1, len(lines) + 1):
            found = read_sayings("".join(lines[:many]))
            self.assertIs(type(found), list)
            self.same([saying.text() + "\n" for saying in found], lines[:many])
        self.same([str(saying) for saying in read_sayings(text=lines[0] * 70)], [lines[0][:-1]] * 70)

    def test_new_lists(self):
        text = f"atmost 5 {R}\n"
        found = read_sayings(text)
        found.append(None)
        self.same(len(read_sayings(text)), 1)

    def test_no_lines_of_sayings(self):
        line = f"atmost 5 {R}\n"
        for text in [line[:-1], line + line[:-1], line + "\n", "\n" + line, line + "\n" + line, "\n", " ", "a",
                     line + " ",
                     line + "x\n", "x\n" + line, line + "end\n", line.replace("\n", " \n"), line.replace("\n", ""),
                     line + "atmost 100 0.0.0\n", line + line.upper(), " " + line]:
            self.same(read_sayings(text), None)

    def test_no_strings(self):
        line = f"atmost 5 {R}\n"
        for value in [value for value in any_values() if value != ""] + [[line], (line,), [], (),
                                                                         read_saying(line[:-1])]:
            self.same(read_sayings(value), None)
