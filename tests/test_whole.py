"""The points [2] and [3] over the whole program, and its interface."""

import copy
import importlib
import inspect
import unittest
from itertools import product
from pathlib import Path

from poundmeets import boats, canals, days, gates, numbers, sights, steps, tables, texts
from poundmeets.day import Day
from poundmeets.desk import Desk
from poundmeets.errors import NoBoat, NoCanal, NoLine, NoWay, PoundError
from tests import plain
from tests.test_asking import ASKED, ODD

INTERFACE = {
    "canals": "is_canal first_bar pounds next_ones is_day many_days least_day",
    "tables": "is_table table_of book of_books",
    "days": "days_of day_of is_day_of exchanges backward upside_down backward_table upside_down_table",
    "numbers": "many_tables number_of table_at",
    "steps": "one_off lesser greater how_far shortest leads",
    "sights": "many_agree span sights_of best_lock",
    "gates": "turns evening fewest bounds is_fewest",
    "boats": "without many_unseen unseen",
    "day": "Day",
    "texts": "row_text table_text read_row read_table",
    "desk": "Desk",
}
SOME = ((2, 2, 2), (3, 2, 1), (1, 3, 3), (3, 2, 2), (2, 3, 2), (4, 1, 2))


def kept(canal, row):
    """A day on which a row has come about."""
    day = Day(canal)
    for way, boat, _ in row:
        day.go(way, boat)
    return day


class Interface(unittest.TestCase):
    def test_each_name_is_defined_in_its_file(self):
        for module, names in INTERFACE.items():
            found = importlib.import_module("poundmeets." + module)
            source = Path(found.__file__).read_text("ascii")
            for name in names.split():
                kind = "class " if name[0].isupper() else "def "
                self.assertRegex(source, r"(?m)^" + kind + name + r"\b")
                self.assertEqual(getattr(found, name).__module__, "poundmeets." + module)

    def test_each_function_is_asked_by_the_tests_of_asking(self):
        asked = {(module.__name__.split(".")[1], name) for module, name, _ in ASKED}
        listed = {
            (module, name) for module, names in INTERFACE.items() for name in names.split()
            if not name[0].isupper()
        }
        self.assertEqual(asked, listed)

    def test_the_arguments_of_the_methods(self):
        for method, names in (
            (Day, "canal"), (Day.go, "self way boat"), (Day.undo, "self"), (Day.canal, "self"),
            (Day.row, "self"), (Day.pounds, "self"), (Day.met, "self"), (Day.may_come, "self"),
            (Day.table, "self"), (Day.twin, "self"), (Desk, ""), (Desk.say, "self line"),
        ):
            self.assertEqual(list(inspect.signature(method).parameters), names.split())


class OfWhateverKind(unittest.TestCase):
    def refused(self, kind, ask, *given):
        before = copy.deepcopy(given)
        with self.assertRaises(PoundError) as caught:
            ask(*given)
        self.assertIs(type(caught.exception), kind, given)
        self.assertEqual(repr(given), repr(before))

    def test_classes_and_methods(self):
        day, desk = kept((2, 2, 1), (("up", 0, 0),)), Desk()
        for thing in ODD:
            self.refused(NoCanal, Day, thing)
            self.refused(NoLine, desk.say, thing)
            for way in ("up", "down"):
                self.refused(NoBoat, day.go, way, thing)
            if thing not in ("up", "down"):
                for boat in (0, thing):
                    self.refused(NoWay, day.go, thing, boat)
        self.assertEqual(day.row(), (("up", 0, 0),))
        self.assertEqual((desk.say("row"), desk.say("show")), ("-", "2 1 1"))

    def test_a_day_is_none_of_what_else_is_asked_for(self):
        thing = kept((2, 1, 1), (("up", 0, 0),))
        self.refused(NoCanal, Day, thing)
        self.refused(NoLine, Desk().say, thing)
        self.refused(NoWay, Day((2, 1, 1)).go, thing, 0)
        self.refused(NoBoat, Day((2, 1, 1)).go, "up", thing)
        self.assertIs(canals.is_canal(thing), False)
        self.assertIs(canals.is_day((2, 1, 1), thing), False)
        self.assertIs(tables.is_table((2, 1, 1), thing), False)


class ThePromise(unittest.TestCase):
    def test_all_days_of_a_canal_are_those_of_its_tables_each_of_one(self):
        for canal in SOME + ((5, 2, 2), (3, 3, 2), (2, 4, 4), (5, 4, 1), (4, 0, 3), (3, 2, 0)):
            many = sum(days.days_of(canal, table) for table in plain.rising_tables(canal))
            self.assertEqual(many, canals.many_days(canal), canal)

    def test_the_tables_of_days_are_just_those_that_are_tables(self):
        for canal in ((1, 2, 3), (2, 2, 1), (2, 2, 2), (3, 1, 2)):
            found = {kept(canal, day).table() for day in plain.all_days(canal)}
            self.assertEqual(sorted(found), plain.all_tables(canal))
            self.assertEqual(len(found), numbers.many_tables(canal))

    def test_each_table_has_the_told_day(self):
        for canal in SOME:
            for number in range(numbers.many_tables(canal)):
                table = numbers.table_at(canal, number)
                day = kept(canal, days.day_of(canal, table))
                self.assertEqual(day.table(), table)
                self.assertEqual(tables.table_of(canal, day.row()), table)
                written = texts.table_text(canal, day.table())
                self.assertEqual(numbers.number_of(canal, texts.read_table(canal, written)), number)

    def test_turns_and_the_evening_hang_on_the_table_alone(self):
        for canal in ((2, 2, 2), (3, 2, 1), (1, 3, 3)):
            for gated in product(("low", "high"), repeat=canal[0]):
                for day in plain.all_days(canal)[::97]:
                    table = kept(canal, day).table()
                    told = gates.turns(canal, table, gated), gates.evening(canal, table, gated)
                    self.assertEqual(told, plain.lock_through(day, gated))

    def test_tables_are_as_many_exchanges_apart_as_their_numbers_differ(self):
        for canal in ((2, 2, 1), (3, 1, 1), (2, 1, 2), (1, 2, 2), (4, 1, 1)):
            near = {}
            for day in plain.all_days(canal):
                table = kept(canal, day).table()
                for at in days.exchanges(canal, day)[1]:
                    changed = day[:at] + (day[at + 1], day[at]) + day[at + 2:]
                    near.setdefault(table, set()).add(kept(canal, changed).table())
            for one in plain.all_tables(canal):
                far, rim = {one: 0}, [one]
                for table in rim:
                    for beside in sorted(near[table] - set(far)):
                        far[beside] = far[table] + 1
                        rim.append(beside)
                for other in plain.all_tables(canal):
                    self.assertEqual(far[other], plain.differ(one, other))
                    self.assertEqual(far[other], steps.how_far(canal, one, other))

    def test_what_is_left_of_a_day_is_what_its_sights_leave(self):
        for canal in SOME:
            for row in plain.some_days(canal, 3, 33):
                for at in range(len(row) + 1):
                    day = kept(canal, row[:at])
                    seen = tuple((up, down, pound, pound) for up, down, pound in day.met())
                    self.assertLessEqual(day.may_come(), sights.many_agree(canal, seen))
                self.assertEqual(day.may_come(), sights.many_agree(canal, seen))

    def test_a_boat_left_out_is_one_that_nobody_saw(self):
        canal = (4, 3, 3)
        for table in plain.some_tables(canal, 10, 34):
            for way, boat in product(("up", "down"), range(3)):
                fewer = boats.without(canal, table, way, boat)
                smaller = (4, 2, 3) if way == "up" else (4, 3, 2)
                least, greatest = boats.unseen(smaller, fewer, way, boat)
                line = table[boat] if way == "up" else tuple(part[boat] for part in table)
                for low, pound, high in zip(least, line, greatest):
                    self.assertTrue(low <= pound <= high)
                self.assertGreater(boats.many_unseen(smaller, fewer, way, boat), 0)

    def test_a_desk_tells_of_its_day_what_the_functions_tell(self):
        desk, canal = Desk(), (3, 2, 2)
        desk.say("canal 3 2 2")
        for way, boat, _ in plain.some_days(canal, 1, 35)[0]:
            desk.say(way + " " + str(boat))
        row = texts.read_row(canal, desk.say("row"))
        self.assertIs(canals.is_day(canal, row), True)
        self.assertEqual(texts.table_text(canal, tables.table_of(canal, row)), desk.say("table"))


if __name__ == "__main__":
    unittest.main()
