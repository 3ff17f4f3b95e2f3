"""Point 16: reports, and what they tell."""

import random
import unittest

from simulation import FAR, LIMIT, Simulation, random_cases
from warmswitch.errors import InvalidNumber, InvalidReport
from warmswitch.reports import parse_report, report
from warmswitch.rooms import Heater, Room
from warmswitch.weathers import Weather

HEADER = "                tick         degrees heater"


def grouped(number):
    """A number with a comma between groups of three digits."""
    digits, groups = str(abs(number)), []
    while digits:
        groups.insert(0, digits[-3:])
        digits = digits[:-3]
    return ("-" if number < 0 else "") + ",".join(groups)


def line(tick, degrees, on):
    first, second = grouped(tick), grouped(degrees)
    return " " * (20 - len(first)) + first + " " * (16 - len(second)) + second + (" on    " if on else " off   ")


def text_of(rows):
    return "\n".join([HEADER] + [line(*row) for row in rows])


class ReportTest(unittest.TestCase):

    def setUp(self):
        self.room = Room(Weather(-1), Heater(3, 18, 21), 20)

    def test_to_the_letter(self):
        self.assertEqual(report(self.room, 0, 6), (
            "                tick         degrees heater\n"
            "                   0              20 off   \n"
            "                   1              19 off   \n"
            "                   2              18 off   \n"
            "                   3              17 on    \n"
            "                   4              19 on    \n"
            "                   5              21 on    \n"
            "                   6              23 off   "
        ))
        room = Room(Weather(-100), Heater(1, -5, 5), -999998950)
        self.assertEqual(report(room, 999, 1000), (
            "                tick         degrees heater\n"
            "                 999  -1,000,097,851 on    \n"
            "               1,000  -1,000,097,950 on    "
        ))

    def test_widest_numbers_that_fit(self):
        room = Room(Weather(0), Heater(1, -LIMIT, LIMIT), -LIMIT + 1)
        tick = 10 ** 15 - 1
        self.assertEqual(report(room, tick, tick),
                         HEADER + "\n 999,999,999,999,999-999,999,999,999 off   ")

    def test_like_a_room(self):
        for case in random_cases(22, 40):
            simulation = Simulation(case, 300)
            rows = [(tick, simulation.degrees[tick], simulation.heated[tick]) for tick in range(300)]
            room = case.room()
            self.assertEqual(report(room, 0, 299), text_of(rows), case)
            self.assertEqual(report(room, 123, 140), text_of(rows[123:141]), case)
            self.assertEqual(report(room, 7, 7), text_of(rows[7:8]), case)

    def test_far_ones(self):
        for first in (10 ** 3 - 5, 10 ** 6 - 5, 10 ** 9 - 5, 10 ** 12 - 5, 10 ** 15 - 11):
            rows = [(tick, self.room.temperature(tick), self.room.is_on(tick)) for tick in range(first, first + 11)]
            text = report(self.room, first, first + 10)
            self.assertEqual(text, text_of(rows))
            self.assertEqual({len(each) for each in text.split("\n")}, {43})
            self.assertEqual(parse_report(text), rows)

    def test_numbers_that_are_wider_than_their_column(self):
        self.assertEqual(report(self.room, FAR, FAR).split("\n"),
                         [HEADER, "1,000,000,000,000,000,000" + " " * 14 + "19 off   "])
        cold = Room(Weather(0), Heater(1, -LIMIT, LIMIT), -LIMIT)
        self.assertEqual(report(cold, 5, 5).split("\n")[1], " " * 19 + "5-1,000,000,000,000 off   ")

    def test_as_many_ticks_as_there_may_be(self):
        for first in (0, 77, FAR - 499):
            text = report(self.room, first, first + 499)
            self.assertEqual(len(text.split("\n")), 501)

    def test_wrong_ticks(self):
        for first, last in ((-1, 5), (-1, -1), (0, -1), (5, 4), (0, 500), (7, 507), (FAR, FAR + 1), (FAR + 1, FAR + 1),
                            (FAR, FAR - 1), (0, FAR), (FAR - 500, FAR), (-10 ** 5000, 10 ** 5000)):
            with self.assertRaises(InvalidNumber) as caught:
                report(self.room, first, last)
            self.assertIs(type(caught.exception), InvalidNumber)

    def test_repeated_calls(self):
        self.assertEqual(report(self.room, 3, 50), report(self.room, 3, 50))


class ParseTest(unittest.TestCase):

    def assert_ill_formed(self, row, text):
        with self.assertRaises(InvalidReport) as caught:
            parse_report(text)
        self.assertIs(type(caught.exception), InvalidReport)
        self.assertEqual(caught.exception.row, row, text)

    def test_reports_of_rooms(self):
        for case in random_cases(23, 40):
            simulation = Simulation(case, 200)
            rows = [(tick, simulation.degrees[tick], simulation.heated[tick]) for tick in range(200)]
            found = parse_report(report(case.room(), 0, 199))
            self.assertEqual(found, rows, case)
            self.assertEqual({(type(each), type(each[0]), type(each[1]), type(each[2])) for each in found},
                             {(tuple, int, int, bool)})

    def test_any_numbers_in_any_order(self):
        chance = random.Random(24)
        for _ in range(100):
            rows = []
            for _ in range(chance.randint(0, 30)):
                tick = chance.randint(-10 ** chance.randint(0, 15) + 1, 10 ** chance.randint(0, 15) - 1)
                degrees = chance.randint(-10 ** chance.randint(0, 12) + 1, 10 ** chance.randint(0, 12) - 1)
                rows.append((tick, degrees, chance.random() < 0.5))
            self.assertEqual(parse_report(text_of(rows)), rows)

    def test_numbers_that_just_fit(self):
        rows = [(10 ** 15 - 1, 10 ** 12 - 1, True), (-10 ** 15 + 1, -10 ** 12 + 1, False), (0, 0, True),
                (999, -999, False), (1000, -1000, True), (-1, 1, True), (-999999, 1000000, False), (5, 5, True),
                (5, 5, True), (4, 6, False)]
        self.assertEqual(parse_report(text_of(rows)), rows)

    def test_many_lines(self):
        rows = [(tick % 700, -tick, tick % 3 == 0) for tick in range(2000)]
        self.assertEqual(parse_report(text_of(rows)), rows)

    def test_the_first_line_alone(self):
        self.assertEqual(parse_report(HEADER), [])

    def test_the_list_may_be_modified(self):
        text = text_of([(3, 17, True)])
        parse_report(text).clear()
        self.assertEqual(parse_report(text), [(3, 17, True)])

    def test_a_wrong_first_line(self):
        good = line(3, 17, True)
        for first in ("", " ", "tick", HEADER + " ", " " + HEADER, HEADER[1:], HEADER.upper(), HEADER.strip(),
                      HEADER[:-1], good, HEADER.replace("degrees", "degree "), "\t" + HEADER[1:], HEADER + "\r",
                      HEADER.replace("heater", "Heater"), "tick" + " " * 25 + "degrees heater"):
            self.assert_ill_formed(0, first)
            self.assert_ill_formed(0, first + "\n" + good)
        self.assert_ill_formed(0, "\n" + HEADER + "\n" + good)
        self.assert_ill_formed(0, good + "\n" + HEADER)

    def test_wrong_lines(self):
        for wrong in self.wrong_lines():
            good = line(3, 17, True)
            self.assert_ill_formed(1, HEADER + "\n" + wrong)
            self.assert_ill_formed(1, HEADER + "\n" + wrong + "\n" + good + "\n" + wrong)
            self.assert_ill_formed(3, HEADER + "\n" + good + "\n" + good + "\n" + wrong)
            self.assert_ill_formed(2, HEADER + "\n" + good + "\n" + wrong + "\n" + good)

    def wrong_lines(self):
        def with_columns(first, second="17", third=" on    "):
            return first.rjust(20) + second.rjust(16) + third

        lines = ["", " ", HEADER, " " * 43, "3 17 on", "x" * 43]
        # wrong widths
        good = line(3, 17, True)
        lines += [good + " ", " " + good, good[1:], good[:-1], good.rstrip(), good.strip(), good + good,
                  line(3, 17, False) + " ", line(3, 17, False)[:-1], good + "\r", good[:-1] + "\r"]
        # numbers that are wider than their column
        lines += ["1,000,000,000,000,000" + line(3, 17, True)[20:], line(3, 17, True)[:20] + "-1,000,000,000,000 on    ",
                  "1,000,000,000,000,000" + line(3, 17, True)[21:], "10000000000000000000" + good[20:]]
        for number in ("", "-", "--3", "+3", "03", "-0", "00", "1000", "1,00", "10,00", "1,0000", ",100", "100,",
                       "0,100", "000,100", "1,000,00", "1000,000", "-1000", "-,100", "- 3", "3 3", "1 000", "1.000",
                       "1_000", "1,,000", "3.0", "0x3", "3e2", "three", "\u0663", "\uff13", "\u00b3", "3\u00a0", "\t3",
                       "\u22123", "on", "None", "1,000,", "12,34", "\x1f3", "\u00a03"):
            lines += [with_columns(number), with_columns("3", number)]
        # numbers at the wrong side of their column
        lines += ["3".ljust(20) + "17".rjust(16) + " on    ", "3".rjust(20) + "17".ljust(16) + " on    ",
                  "3".rjust(19) + " " + "17".rjust(16) + " on    ", "3".rjust(20) + "17".rjust(15) + "  on    "]
        for word in ("on    ", " on   ", "  on    ", "     on", " On    ", " ON    ", "  off  ", " offf  ", " off on",
                     "       ", " True  ", " on\t   ", "-on    ", ",on    ", " o n   ", " of    ", " no    ", "0on    ",
                     " on  \u00a0 ", "\u00a0on    ", " on   x", " off  x", "off    "):
            lines.append(with_columns("3", "17", word))
        return lines

    def test_the_first_ill_formed_line_counts(self):
        good = line(3, 17, True)
        self.assert_ill_formed(2, "\n".join([HEADER, good, good[1:], good, "", HEADER]))
        self.assert_ill_formed(0, "\n".join([HEADER[1:], good, good[1:]]))

    def test_line_feeds(self):
        good = line(3, 17, True)
        self.assert_ill_formed(2, HEADER + "\n" + good + "\n")
        self.assert_ill_formed(1, HEADER + "\n")
        self.assert_ill_formed(1, HEADER + "\n\n" + good)
        self.assert_ill_formed(0, HEADER + "\r\n" + good)
        self.assert_ill_formed(1, HEADER + "\n" + good + "\r\n" + good)
        for other in ("\r", "\x0b", "\x0c", "\x85", "\u2028"):
            self.assert_ill_formed(0, HEADER + other + good)


if __name__ == "__main__":
    unittest.main()
