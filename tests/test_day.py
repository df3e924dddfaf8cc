"""The point [80]: a day kept."""

import unittest
from itertools import product
from random import Random

from poundmeets import canals, numbers, sights, tables
from poundmeets.day import Day
from poundmeets.errors import Barred, NoBoat, NoCanal, NoDeed, NoWay, PoundError
from tests import plain

SOME = ((1, 1, 1), (1, 2, 3), (2, 1, 1), (2, 2, 1), (2, 1, 2), (3, 1, 1), (2, 2, 2), (2, 0, 2), (3, 1, 0))


def kept(canal, row):
    """A day on which a row has come about."""
    day = Day(canal)
    for way, boat, _ in row:
        day.go(way, boat)
    return day


def all_of(day):
    """All that a day tells."""
    return (
        day.canal(), day.row(), day.pounds(), day.met(), day.may_come(), day.table(), len(day),
        repr(day),
    )


class Rows(unittest.TestCase):
    def test_a_new_day(self):
        for canal in product(range(1, 6), range(5), range(5)):
            locks, ups, downs = canal
            day = Day(canal)
            self.assertEqual(day.canal(), canal)
            self.assertEqual(day.row(), ())
            self.assertEqual(day.pounds(), ((0,) * ups, (locks,) * downs))
            self.assertEqual(day.met(), ())
            self.assertEqual(day.may_come(), numbers.many_tables(canal))
            self.assertEqual(day.table(), () if ups == 0 and downs == 0 else None)
            self.assertEqual((len(day), repr(day)), (0, "Day(0 passings)"))

    def test_along_days(self):
        for canal in SOME + (plain.GREATEST, (5, 4, 1), (4, 0, 4)):
            for row in plain.some_days(canal, 5, 81):
                day = Day(canal)
                for at, (way, boat, _) in enumerate(row):
                    self.assertIsNone(day.go(way, boat))
                    self.check(canal, row[:at + 1], day)
                self.assertEqual(day.table(), plain.table_behind(canal, row))
                self.assertEqual(day.may_come(), 1)

    def check(self, canal, row, day):
        self.assertEqual(day.row(), row)
        state = plain.state_behind(canal, row)
        self.assertEqual(day.pounds(), plain.pounds_of(canal, state))
        met = plain.met_in(canal, row)
        self.assertEqual(day.met(), tuple(sorted(two + (met[two],) for two in met)))
        self.assertEqual(len(day), len(row))
        self.assertEqual(repr(day), "Day(" + str(len(row)) + " passings)")
        if plain.choices(canal, state):
            self.assertIsNone(day.table())

    def test_one_passing_is_passings_too(self):
        self.assertEqual(repr(kept((2, 1, 1), (("up", 0, 0),))), "Day(1 passings)")
        row = plain.least_with((3, 2, 2))
        self.assertEqual(repr(kept((3, 2, 2), row)), "Day(12 passings)")

    def test_by_place_and_by_name(self):
        day = Day(canal=(2, 1, 1))
        self.assertIsNone(day.go(way="up", boat=0))
        self.assertIsNone(day.go(boat=0, way="down"))
        self.assertIsNone(day.go("up", boat=0))
        self.assertEqual(day.row(), (("up", 0, 0), ("down", 0, 1), ("up", 0, 1)))

    def test_days_that_are_over_without_up_or_down_boats(self):
        day = kept((1, 2, 0), (("up", 0, 0), ("up", 1, 0)))
        self.assertEqual((day.table(), day.met(), day.may_come()), (((), ()), (), 1))
        day = kept((2, 0, 1), (("down", 0, 1),))
        self.assertIsNone(day.table())
        day.go("down", 0)
        self.assertEqual((day.table(), day.met(), day.may_come()), ((), (), 1))
        self.assertEqual(Day((5, 0, 0)).table(), ())


class MayCome(unittest.TestCase):
    def test_all_beginnings_of_all_days(self):
        for canal in SOME:
            come = {}
            for table, days in plain.days_by_table(canal).items():
                for row in days:
                    for at in range(len(row) + 1):
                        come.setdefault(row[:at], set()).add(table)
            for row, found in come.items():
                self.assertEqual(kept(canal, row).may_come(), len(found), row)

    def test_the_greatest_canal(self):
        canal = plain.GREATEST
        for row in plain.some_days(canal, 6, 83):
            for at in (26, 30, 34, 38):
                day = kept(canal, row[:at])
                ups, downs = day.pounds()
                met = {two[:2]: two[2] for two in day.met()}
                self.assertEqual(day.may_come(), self.counted(canal, ups, downs, met))

    def counted(self, canal, ups, downs, met):
        """The tables, gone through, that fit to what has been so far."""
        def fits(up, line):
            return all(
                pound == met[up, down] if (up, down) in met else ups[up] <= pound <= downs[down]
                for down, pound in enumerate(line)
            )

        return sum(1 for _ in plain.rising_tables(canal, fits))

    def test_what_comes_is_what_sights_of_what_has_been_tell(self):
        canal = (4, 3, 3)
        for row in plain.some_days(canal, 5, 84):
            for at in range(0, len(row) + 1, 3):
                day = kept(canal, row[:at])
                ups, downs = day.pounds()
                met = [(up, down) for up, down, _ in day.met()]
                seen = [(up, down, pound, pound) for up, down, pound in day.met()]
                seen += [
                    (up, down, ups[up], downs[down])
                    for up, down in product(range(3), range(3)) if (up, down) not in met
                ]
                self.assertEqual(day.may_come(), sights.many_agree(canal, tuple(seen)))

    def test_never_more_than_before(self):
        canal = plain.GREATEST
        for row in plain.some_days(canal, 3, 85):
            day, before = Day(canal), numbers.many_tables(canal)
            for way, boat, _ in row:
                day.go(way, boat)
                self.assertLessEqual(day.may_come(), before)
                before = day.may_come()


class Deeds(unittest.TestCase):
    def test_undo_all_along_a_day(self):
        for canal in SOME + (plain.GREATEST,):
            (row,) = plain.some_days(canal, 1, 86)
            day = kept(canal, row)
            for at in reversed(range(len(row))):
                self.assertIsNone(day.undo())
                self.assertEqual(day.row(), row[:at])
                self.assertEqual(day, kept(canal, row[:at]))
                self.assertEqual(len(day), at)
            with self.assertRaises(NoDeed):
                day.undo()
            self.assertEqual(day, Day(canal))

    def test_an_undo_cannot_be_undone(self):
        day = kept((2, 1, 1), (("up", 0, 0), ("down", 0, 1)))
        day.undo()
        day.undo()
        self.assertEqual((day.row(), len(day)), ((), 0))
        with self.assertRaises(NoDeed):
            day.undo()
        day.go("down", 0)
        self.assertEqual(day.row(), (("down", 0, 1),))

    def test_deeds_by_chance(self):
        chance = Random(87)
        for canal in ((2, 2, 2), (3, 2, 1), (1, 4, 4), (2, 0, 2)):
            day, row = Day(canal), ()
            for _ in range(300):
                way = chance.choice(("up", "down"))
                boat = chance.randrange(-1, 5)
                boats = canal[1] if way == "up" else canal[2]
                let = [part for part in canals.next_ones(canal, row) if part[:2] == (way, boat)]
                if chance.random() < 0.4:
                    self.told(None if row else NoDeed, day.undo)
                    row = row[:-1]
                elif not 0 <= boat < boats:
                    self.told(NoBoat, day.go, way, boat)
                else:
                    self.told(None if let else Barred, day.go, way, boat)
                    row += tuple(let)
                self.assertEqual((day.row(), len(day)), (row, len(row)))

    def told(self, kind, deed, *given):
        """What a deed tells: None, or just that refusal."""
        try:
            self.assertIsNone(deed(*given))
            self.assertIsNone(kind)
        except PoundError as error:
            self.assertIs(type(error), kind)


class Refusals(unittest.TestCase):
    def test_no_canal(self):
        for thing in (
            None, True, 0, "2 1 1", [2, 1, 1], (2, 1), (0, 1, 1), (6, 1, 1), (2, 5, 1), (2, 1, -1),
            (True, 1, 1), (2, True, 1), (2, 1, False), (), {}, (2, 1, 1, 1), ((2, 1, 1),),
        ):
            with self.assertRaises(NoCanal):
                Day(thing)

    def refused(self, kind, day, *given):
        before = all_of(day)
        with self.assertRaises(PoundError) as caught:
            day.go(*given)
        self.assertIs(type(caught.exception), kind, given)
        self.assertEqual(all_of(day), before)

    def test_go(self):
        day = kept((2, 2, 1), (("up", 0, 0), ("up", 1, 0), ("down", 0, 1), ("down", 0, 0)))
        for way in (None, True, "", "Up", "u", "sideways", ("up",), ["up"], {}, {"up": 0}, 0):
            for boat in (0, 7, None):
                self.refused(NoWay, day, way, boat)
        for boat in (-1, 2, 10 ** 12 - 1, True, False, None, "0", (0,), [0], {}):
            self.refused(NoBoat, day, "up", boat)
        for boat in (1, -1, False):
            self.refused(NoBoat, day, "down", boat)
        self.refused(Barred, day, "up", 1)
        self.refused(Barred, day, "down", 0)
        day.go("up", 0)
        self.refused(Barred, day, "up", 0)
        day.go("up", 1)
        for boat in (0, 1):
            self.refused(Barred, day, "up", boat)
        self.refused(NoBoat, day, "up", 2)
        self.refused(NoBoat, Day((1, 0, 1)), "up", 0)
        self.refused(NoBoat, Day((1, 1, 0)), "down", 0)

    def test_undo(self):
        day = Day((2, 1, 1))
        before = all_of(day)
        for _ in range(2):
            with self.assertRaises(NoDeed):
                day.undo()
        self.assertEqual(all_of(day), before)


class EqualAndTwins(unittest.TestCase):
    row = (("up", 0, 0), ("down", 0, 1), ("up", 0, 1))

    def test_equal_to_the_same_canal_and_row_alone(self):
        canal = (2, 1, 1)
        day = kept(canal, self.row)
        self.assertTrue(day == kept(canal, self.row))
        self.assertFalse(day != kept(canal, self.row))
        self.assertTrue(day == day)
        for other in (
            kept(canal, self.row[:2]), Day(canal), kept((2, 1, 2), self.row),
            kept((2, 2, 1), self.row), kept(canal, (self.row[1], self.row[0], self.row[2])),
            self.row, canal, None, True, 3, "Day(3 passings)", repr(day), [], {}, (canal, self.row),
        ):
            self.assertIs(day == other, False)
            self.assertIs(other == day, False)
            self.assertIs(day != other, True)
            self.assertIs(other != day, True)

    def test_new_days_of_unlike_canals(self):
        found = list(product(range(1, 6), range(5), range(5)))
        for one, other in zip(found, found[1:]):
            self.assertFalse(Day(one) == Day(other))
        self.assertFalse(Day((2, 0, 0)) == ())

    def test_how_it_came_about_does_not_count(self):
        day = kept((2, 1, 1), self.row + (("down", 0, 0),))
        day.undo()
        self.assertTrue(day == kept((2, 1, 1), self.row))

    def test_a_twin(self):
        for at in range(4):
            day = kept((2, 1, 1), self.row[:at])
            twin = day.twin()
            self.assertIsInstance(twin, Day)
            self.assertIsNot(twin, day)
            self.assertTrue(twin == day)
            self.assertEqual(all_of(twin), all_of(day))
            for back in reversed(range(at)):
                twin.undo()
                self.assertEqual(twin.row(), self.row[:back])
            with self.assertRaises(NoDeed):
                twin.undo()
            self.assertEqual(day.row(), self.row[:at])

    def test_neither_hangs_on_the_other(self):
        day = kept((2, 1, 1), self.row[:2])
        twin = day.twin()
        twin.go("up", 0)
        self.assertEqual((day.row(), twin.row()), (self.row[:2], self.row))
        self.assertTrue(day != twin)
        day.go("down", 0)
        day.undo()
        day.undo()
        self.assertEqual((day.row(), twin.row()), (self.row[:1], self.row))
        third = twin.twin()
        twin.undo()
        self.assertEqual((len(day), len(twin), len(third)), (1, 2, 3))


class Asked(unittest.TestCase):
    def test_the_same_question_has_the_same_answer(self):
        day = kept((3, 2, 2), plain.least_with((3, 2, 2))[:7])
        self.assertEqual(all_of(day), all_of(day))

    def test_questions_change_nothing(self):
        canal = (2, 2, 1)
        day, row = Day(canal), plain.least_with(canal)
        for at, (way, boat, _) in enumerate(row):
            all_of(day)
            day.go(way, boat)
            all_of(day)
            self.assertEqual(day.row(), row[:at + 1])

    def test_what_is_told_may_be_handed_in_again(self):
        canal = plain.GREATEST
        day = kept(canal, plain.some_days(canal, 1, 88)[0])
        self.assertIs(canals.is_day(day.canal(), day.row()), True)
        self.assertEqual(tables.table_of(day.canal(), day.row()), day.table())
        self.assertTrue(kept(day.canal(), day.row()) == day)

    def test_the_class_has_its_methods_itself(self):
        names = "__init__ __len__ __eq__ __repr__ go undo canal row pounds met may_come table twin"
        for name in names.split():
            self.assertIn(name, vars(Day))
        self.assertEqual(Day.__module__, "poundmeets.day")


if __name__ == "__main__":
    unittest.main()
