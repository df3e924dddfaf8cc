"""The point [2]: how questions are asked, what is refused, and by which class."""

import copy
import inspect
import unittest
from itertools import permutations

from poundmeets import canals, days, tables
from poundmeets.errors import Barred, NoBooks, NoCanal, NoDay, NoLock, NoRow, NoTable

CANAL = (2, 2, 1)
TABLE = ((1,), (0,))
DAY = days.day_of(CANAL, TABLE)
ROW = DAY[:3]
BOOKS = tuple(tables.book(CANAL, TABLE, lock) for lock in range(2))

# Each function of the interface: its module, its arguments' names, what it is asked.
ASKED = (
    (canals, "is_canal", {"thing": CANAL}),
    (canals, "first_bar", {"canal": CANAL, "row": ROW}),
    (canals, "pounds", {"canal": CANAL, "row": ROW}),
    (canals, "next_ones", {"canal": CANAL, "row": ROW}),
    (canals, "is_day", {"canal": CANAL, "thing": DAY}),
    (canals, "many_days", {"canal": CANAL}),
    (canals, "least_day", {"canal": CANAL}),
    (tables, "is_table", {"canal": CANAL, "thing": TABLE}),
    (tables, "table_of", {"canal": CANAL, "day": DAY}),
    (tables, "book", {"canal": CANAL, "table": TABLE, "lock": 1}),
    (tables, "of_books", {"canal": CANAL, "books": BOOKS}),
    (days, "days_of", {"canal": CANAL, "table": TABLE}),
    (days, "day_of", {"canal": CANAL, "table": TABLE}),
    (days, "is_day_of", {"canal": CANAL, "table": TABLE, "thing": DAY}),
    (days, "exchanges", {"canal": CANAL, "day": DAY}),
    (days, "backward", {"canal": CANAL, "day": DAY}),
    (days, "upside_down", {"canal": CANAL, "day": DAY}),
    (days, "backward_table", {"canal": CANAL, "table": TABLE}),
    (days, "upside_down_table", {"canal": CANAL, "table": TABLE}),
)


def deep(kind):
    """Something eight deep."""
    told = 0
    for _ in range(8):
        told = kind(told)
    return told


# Things that are none of what is asked for, of whatever kind.
ODD = (
    None, True, False, "", "up", "down", "x" * 2000, "d0@1\t\n~", [], {}, [[]], ((),), [()],
    {"up": 0}, {0: (), "a": [None]}, -1, 2, 7, 10 ** 12 - 1, 1 - 10 ** 12, (None,), (True,),
    deep(lambda part: (part,)), deep(lambda part: [part]), deep(lambda part: {0: part}),
    (0,) * 2000, [0] * 2000, ("up",) * 2000, ((0, 0, 0),) * 400, ({}, [], ()), (1, 2, 3, 4),
)
NEAR = {
    "canal": (
        list(CANAL), CANAL[:2], CANAL + (1,), (0, 2, 1), (6, 2, 1), (2, 5, 1), (2, -1, 1),
        (2, 2, 5), (2, 2, -1), (True, 2, 1), (2, True, 1), (2, 2, True), ("2", 2, 1), (),
        ((2,), 2, 1), (2, [2], 1), (2, 2, None),
    ),
    "row": (
        list(ROW), (list(ROW[0]),), (ROW[0][:2],), (ROW[0] + (0,),), (("up", 2, 0),),
        (("up", -1, 0),), (("down", 1, 0),), (("up", 0, 2),), (("up", 0, -1),),
        (("up", False, 0),), (("up", 0, False),), (("up", True, 0),), (("Up", 0, 0),),
        ((True, 0, 0),), (("up", 0, "0"),), (("up", None, 0),), ROW + (None,), ROW[0],
        ((("up",), 0, 0),), ((["up"], 0, 0),), (({}, 0, 0),), ("up", 0, 0), ROW + ("u0@0",),
    ),
    "day": (
        list(DAY), DAY[:-1], DAY + DAY[:1], DAY[::-1], (), ROW, DAY[1:],
        DAY[:-1] + (list(DAY[-1]),), DAY[:-1] + (("up", True, True),),
        tuple((way, bool(boat), bool(lock)) for way, boat, lock in DAY),
        (("up", 2, 0),) + DAY[1:], DAY[:-1] + (None,),
    ),
    "table": (
        list(TABLE), (list(TABLE[0]), TABLE[1]), TABLE[:1], TABLE + TABLE[1:], ((0,), (1,)),
        ((3,), (0,)), ((1,), (-1,)), ((True,), (0,)), ((1,), (False,)), ((1, 1), (0, 0)),
        ((), ()), (), ((1,), ("0",)), ((1,), (None,)), (1, 0), ((1,), 0),
    ),
    "lock": (-1, 2, "0", (0,), [0], (), 0 - 10 ** 11),
    "books": (
        list(BOOKS), (list(BOOKS[0]), BOOKS[1]), BOOKS[:1], BOOKS + BOOKS[:1], (),
        (BOOKS[0], ("up", "up", "up")), (BOOKS[0], ("up", "down")),
        (BOOKS[0], ("up", "up", "down", "down")), (BOOKS[0], ("up", "up", True)), ((), ()),
        (BOOKS[0], "upupdown"), (BOOKS[0], ("up", "up", ["down"])),
    ),
}
REFUSED = {
    "canal": NoCanal, "row": NoRow, "day": NoDay, "table": NoTable, "lock": NoLock,
    "books": NoBooks,
}


def wrong(name):
    """All things that are refused as such an argument."""
    return ODD + NEAR[name]


class Asking(unittest.TestCase):
    def refused(self, kind, ask, given):
        before = copy.deepcopy(given)
        with self.assertRaises(ValueError) as caught:
            ask(**given)
        self.assertIs(type(caught.exception), kind, given)
        self.assertEqual(repr(given), repr(before))

    def test_the_names_and_where_they_stand(self):
        for module, name, given in ASKED:
            ask = getattr(module, name)
            self.assertEqual(ask.__module__, module.__name__)
            self.assertEqual(list(inspect.signature(ask).parameters), list(given))

    def test_by_place_or_by_name_in_any_order(self):
        for module, name, given in ASKED:
            ask = getattr(module, name)
            told = ask(*given.values())
            for order in permutations(given):
                self.assertEqual(repr(ask(**{key: given[key] for key in order})), repr(told))
            first, *rest = given
            self.assertEqual(ask(given[first], **{key: given[key] for key in rest}), told)

    def test_the_same_question_has_the_same_answer(self):
        for module, name, given in ASKED:
            ask = getattr(module, name)
            before = copy.deepcopy(given)
            first = ask(**given)
            self.assertEqual(repr(first), repr(ask(**copy.deepcopy(given))))
            self.assertEqual(repr(given), repr(before))

    def test_refusals_of_each_argument(self):
        for module, name, given in ASKED:
            for key in given:
                if key in REFUSED:
                    for thing in wrong(key):
                        self.refused(REFUSED[key], getattr(module, name), {**given, key: thing})

    def test_of_several_wrong_ones_the_left_one(self):
        for module, name, given in ASKED:
            keys = list(given)
            for at, key in enumerate(keys):
                for thing in wrong(key) if key in REFUSED else ():
                    for other in (None, True, [], {}, (), "x", ((),), -1):
                        rest = {late: other for late in keys[at + 1:]}
                        asked = {**given, key: thing, **rest}
                        self.refused(REFUSED[key], getattr(module, name), asked)

    def test_no_row_goes_ahead_of_barred(self):
        barred = (("up", 0, 1),)
        for ask in (canals.pounds, canals.next_ones):
            self.refused(Barred, ask, {"canal": CANAL, "row": barred})
            self.refused(NoRow, ask, {"canal": CANAL, "row": barred + (("up", 0, 5),)})
            self.refused(NoCanal, ask, {"canal": (0, 0, 0), "row": barred})

    def test_of_anything_it_is_told_whether(self):
        for module, name, given in ASKED:
            if "thing" not in given:
                continue
            ask = getattr(module, name)
            rest = {key: given[key] for key in given if key != "thing"}
            self.assertIs(ask(**given), True)
            kind = {"is_canal": "canal", "is_table": "table"}.get(name, "day")
            for thing in wrong(kind):
                before = copy.deepcopy(thing)
                self.assertIs(ask(thing=thing, **rest), False, thing)
                self.assertEqual(repr(thing), repr(before))

    def test_what_was_told_may_be_handed_in_again(self):
        canal = (5, 4, 4)
        day = canals.least_day(canal)
        self.assertIsNone(canals.first_bar(canal, day))
        table = tables.table_of(canal, day)
        books = tuple(tables.book(canal, table, lock) for lock in range(5))
        self.assertEqual(tables.of_books(canal, books), table)
        self.assertEqual(days.day_of(canal, table), day)
        self.assertEqual(days.backward(canal, days.backward(canal, day)), day)

    def test_all_that_is_told_is_of_plain_kinds(self):
        def check(told):
            self.assertIn(type(told), (int, str, tuple, bool, type(None)))
            if type(told) is tuple:
                for part in told:
                    self.assertIsNot(type(part), bool)
                    check(part)

        for module, name, given in ASKED:
            check(getattr(module, name)(**given))


if __name__ == "__main__":
    unittest.main()
