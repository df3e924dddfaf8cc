"""The point [91]: a desk, its lines, its questions, its refusals."""

import unittest
from itertools import product
from random import Random

from poundmeets import canals, numbers, texts
from poundmeets.day import Day
from poundmeets.desk import Desk
from poundmeets.errors import Barred, NoBoat, NoCanal, NoDeed, NoLine, PoundError
from tests import plain

QUESTIONS = ("show", "row", "pounds", "met", "open", "table", "next", "days")
NO_LINES = (
    None, True, False, 0, 7, -1, (), ("show",), [], ["show"], {}, {"show": None}, (("up", 0),),
    "", " ", "\n", "\t", "x" * 2000, "Show", "SHOW", "show ", " show", "show\n", "\tshow", "show 1",
    "show show", "row 0", "pounds -", "met 0 0", "open up", "table 0", "next 1", "days 2 1 1",
    "tables", "twin", "go up 0", "go", "quit", "help", "-", "0", "0 up", "ok", "none",
    "canal", "canal 2", "canal 2 1", "canal 2 1 1 1", "canal  2 1 1", "canal 2  1 1", "canal 2 1 1 ",
    " canal 2 1 1", "canal\t2 1 1", "canal 2\t1 1", "canal 2,1,1", "canal (2, 1, 1)", "Canal 2 1 1",
    "canal 02 1 1", "canal 2 01 1", "canal 2 1 01", "canal 2 1 00", "canal -2 1 1", "canal 2 -1 1",
    "canal 2 1 -1", "canal +2 1 1", "canal 2 1 x", "canal two 1 1", "canal 2 1 1.", "canal 2 1 1_0",
    "canal 1000000000000 1 1", "canal 2 1000000000000 1", "canal 2 1 1000000000000", "canal 2 1 1\n",
    "up", "up ", "up  0", "up 0 ", " up 0", "up 00", "up 01", "up -1", "up +0", "up x", "up 0 0",
    "up\t0", "up 0\n", "up 0.", "up 1000000000000", "up 0000000000000", "Up 0", "up0", "u 0", "u0@0",
    "down", "down ", "down  0", "down 0 ", " down 0", "down 00", "down -0", "down 0 1", "down\n0",
    "down 1000000000000", "DOWN 0", "down None", "down True",
    "undo 0", "undo ", " undo", "undo undo", "Undo", "undo\n", "up 0 undo", "up 0\nup 0",
)


def state(desk):
    """The answers to all questions."""
    return {line: desk.say(line) for line in QUESTIONS}


def answers(day):
    """What a desk should tell of a day."""
    ups, downs = day.pounds()
    canal, table = day.canal(), day.table()
    return {
        "show": " ".join(map(str, canal)),
        "row": texts.row_text(canal, day.row()),
        "pounds": " ".join(map(str, ups + downs)) or "-",
        "met": str(len(day.met())),
        "open": str(day.may_come()),
        "table": "none" if table is None else texts.table_text(canal, table),
        "next": texts.row_text(canal, canals.next_ones(canal, day.row())),
        "days": str(canals.many_days(canal)),
    }


class Lines(unittest.TestCase):
    def test_a_new_desk(self):
        self.assertEqual(state(Desk()), {
            "show": "2 1 1", "row": "-", "pounds": "0 2", "met": "0", "open": "3", "table": "none",
            "next": "d0@1 u0@0", "days": "6",
        })

    def test_a_day_at_a_desk(self):
        desk = Desk()
        for line, told in (
            ("up 0", "ok"), ("row", "u0@0"), ("pounds", "1 2"), ("met", "0"), ("open", "2"),
            ("next", "d0@1 u0@1"), ("down 0", "ok"), ("row", "u0@0 d0@1"), ("pounds", "1 1"),
            ("met", "1"), ("open", "1"), ("table", "none"), ("next", "d0@0 u0@1"), ("up 0", "ok"),
            ("next", "d0@0"), ("down 0", "ok"), ("row", "u0@0 d0@1 u0@1 d0@0"), ("pounds", "2 0"),
            ("table", "1"), ("next", "-"), ("open", "1"), ("days", "6"), ("show", "2 1 1"),
            ("undo", "ok"), ("table", "none"), ("row", "u0@0 d0@1 u0@1"),
        ):
            self.assertEqual(desk.say(line), told, line)

    def test_all_canals(self):
        desk = Desk()
        for canal in product(range(1, 6), range(5), range(5)):
            self.assertEqual(desk.say("canal " + " ".join(map(str, canal))), "ok")
            self.assertEqual(state(desk), answers(Day(canal)))
            self.assertEqual(desk.say("open"), str(numbers.many_tables(canal)))

    def test_canals_without_boats_of_a_way(self):
        desk = Desk()
        desk.say("canal 3 0 0")
        self.assertEqual(state(desk), {
            "show": "3 0 0", "row": "-", "pounds": "-", "met": "0", "open": "1", "table": "-",
            "next": "-", "days": "1",
        })
        desk.say("canal 1 0 1")
        self.assertEqual((desk.say("pounds"), desk.say("table")), ("1", "none"))
        desk.say("down 0")
        self.assertEqual((desk.say("pounds"), desk.say("table")), ("0", "-"))
        desk.say("canal 1 1 0")
        desk.say("up 0")
        self.assertEqual((desk.say("pounds"), desk.say("table")), ("1", "-"))

    def test_a_canal_told_amid_a_day(self):
        desk = Desk()
        desk.say("up 0")
        self.assertEqual(desk.say("canal 2 1 1"), "ok")
        self.assertEqual(state(desk), state(Desk()))
        with self.assertRaises(NoDeed):
            desk.say("undo")
        desk.say("up 0")
        self.assertEqual(desk.say("canal 3 2 1"), "ok")
        self.assertEqual(state(desk), answers(Day((3, 2, 1))))

    def test_the_greatest_canal(self):
        desk = Desk()
        desk.say("canal 5 4 4")
        self.assertEqual(desk.say("days"), "381134230556959188429120")
        self.assertEqual(desk.say("open"), "1646568")
        self.assertEqual(desk.say("pounds"), "0 0 0 0 5 5 5 5")
        for row in plain.some_days((5, 4, 4), 2, 95):
            day = Day((5, 4, 4))
            desk.say("canal 5 4 4")
            for way, boat, _ in row:
                self.assertEqual(desk.say(way + " " + str(boat)), "ok")
                day.go(way, boat)
                self.assertEqual(state(desk), answers(day))
            told = texts.read_table((5, 4, 4), desk.say("table"))
            self.assertEqual(told, plain.table_behind((5, 4, 4), row))
            self.assertEqual(desk.say("met"), "16")

    def test_lines_by_chance(self):
        chance = Random(96)
        desk, day = Desk(), Day((2, 1, 1))
        for _ in range(1500):
            way, boat = chance.choice(("up", "down")), chance.randrange(4)
            canal = (chance.randrange(5), chance.randrange(4), chance.randrange(4))
            line, deed = chance.choice((
                (way + " " + str(boat), lambda: day.go(way, boat)),
                (way + " " + str(boat), lambda: day.go(way, boat)),
                (way + " " + str(boat), lambda: day.go(way, boat)),
                ("undo", day.undo),
                ("canal " + " ".join(map(str, canal)), lambda: Day(canal)),
            ))
            try:
                told = deed()
                # A new day has no deeds, so it isn't true.
                day = day if told is None else told
                self.assertEqual(desk.say(line), "ok")
            except PoundError as error:
                with self.assertRaises(type(error)):
                    desk.say(line)
            self.assertEqual(state(desk), answers(day))

    def test_two_desks(self):
        one, other = Desk(), Desk()
        one.say("up 0")
        self.assertEqual((one.say("row"), other.say("row")), ("u0@0", "-"))

    def test_the_line_by_name(self):
        self.assertEqual(Desk().say(line="show"), "2 1 1")

    def test_all_answers_are_texts_and_the_same_again(self):
        desk = Desk()
        desk.say("down 0")
        for line in QUESTIONS:
            self.assertIs(type(desk.say(line)), str)
        self.assertEqual(state(desk), state(desk))

    def test_the_class_has_its_method_itself(self):
        self.assertIn("say", vars(Desk))
        self.assertEqual(Desk.__module__, "poundmeets.desk")


class Refusals(unittest.TestCase):
    def refused(self, kind, desk, line):
        before = state(desk)
        with self.assertRaises(PoundError) as caught:
            desk.say(line)
        self.assertIs(type(caught.exception), kind, line)
        self.assertEqual(state(desk), before)

    def amid(self):
        """A desk in the middle of a day."""
        desk = Desk()
        for line in ("canal 2 2 1", "up 0", "down 0", "up 1"):
            desk.say(line)
        return desk

    def test_no_line(self):
        for desk in (Desk(), self.amid()):
            for line in NO_LINES:
                self.refused(NoLine, desk, line)

    def test_no_canal(self):
        desk = self.amid()
        for told in (
            "0 1 1", "6 1 1", "2 5 1", "2 1 5", "0 0 0", "10 1 1", "999999999999 1 1",
            "2 999999999999 1", "2 1 999999999999", "100000000000 0 0",
        ):
            self.refused(NoCanal, desk, "canal " + told)
        self.assertEqual(desk.say("undo"), "ok")

    def test_no_boat(self):
        desk = self.amid()
        for line in ("up 2", "up 999999999999", "up 10", "down 1", "down 999999999999"):
            self.refused(NoBoat, desk, line)

    def test_barred(self):
        desk = self.amid()
        self.refused(Barred, desk, "up 1")
        for line in ("up 0", "down 0"):
            desk.say(line)
            self.refused(Barred, desk, line)
        self.refused(NoBoat, desk, "up 2")

    def test_no_deed(self):
        desk = self.amid()
        for _ in range(3):
            self.assertEqual(desk.say("undo"), "ok")
        self.refused(NoDeed, desk, "undo")
        self.refused(NoDeed, Desk(), "undo")

    def test_no_line_goes_ahead_of_all_else(self):
        for line in ("canal 9 9 9 ", "canal 9 09 9", "up 9 ", "up 09", "down 7 7", "undo  ", "undo 1"):
            self.refused(NoLine, Desk(), line)


if __name__ == "__main__":
    unittest.main()
