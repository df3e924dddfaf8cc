"""The point [2]: how questions are asked, what is refused, and by which class."""

import copy
import inspect
import unittest
from itertools import permutations

from poundmeets import boats, canals, days, gates, numbers, sights, steps, tables, texts
from poundmeets.errors import (
    Barred, NoBoat, NoBook, NoBooks, NoCanal, NoDay, NoGates, NoLock, NoNumber, NoPlace, NoRow,
    NoSights, NoTable, NoText, NoWay, NoneAgree, TooMany,
)

CANAL = (2, 2, 1)
TABLE = ((1,), (0,))
DAY = days.day_of(CANAL, TABLE)
ROW = DAY[:3]
BOOKS = tuple(tables.book(CANAL, TABLE, lock) for lock in range(2))
OTHER = ((2,), (2,))
LEADING = (TABLE, ((2,), (0,)), ((2,), (1,)), OTHER)
SIGHTS = ((1, 0, 0, 1), (0, 0, 1, 2))
GATES = ("high", "low")

# Each function of the interface: its module, its arguments' names, what it is asked.
ASKED = (
    (canals, "is_canal", {"thing": CANAL}),
    (canals, "first_bar", {"canal": CANAL, "row": ROW}),
    (canals, "pounds", {"canal": CANAL, "row": ROW}),
    (canals, "next_ones", {"canal": CANAL, "row": ROW}),
    (canals, "is_day", {"canal": CANAL, "thing": DAY}),
    (canals, "many_days", {"canal": CANAL}),
    (canals, "least_day", {"canal": CANAL}),
    (tables, "is_table", {"canal": CANAL, "thing": TABLE}),
    (tables, "table_of", {"canal": CANAL, "day": DAY}),
    (tables, "book", {"canal": CANAL, "table": TABLE, "lock": 1}),
    (tables, "of_books", {"canal": CANAL, "books": BOOKS}),
    (days, "days_of", {"canal": CANAL, "table": TABLE}),
    (days, "day_of", {"canal": CANAL, "table": TABLE}),
    (days, "is_day_of", {"canal": CANAL, "table": TABLE, "thing": DAY}),
    (days, "exchanges", {"canal": CANAL, "day": DAY}),
    (days, "backward", {"canal": CANAL, "day": DAY}),
    (days, "upside_down", {"canal": CANAL, "day": DAY}),
    (days, "backward_table", {"canal": CANAL, "table": TABLE}),
    (days, "upside_down_table", {"canal": CANAL, "table": TABLE}),
    (numbers, "many_tables", {"canal": CANAL}),
    (numbers, "number_of", {"canal": CANAL, "table": TABLE}),
    (numbers, "table_at", {"canal": CANAL, "number": 5}),
    (steps, "one_off", {"canal": CANAL, "table": TABLE}),
    (steps, "lesser", {"canal": CANAL, "one": TABLE, "other": OTHER}),
    (steps, "greater", {"canal": CANAL, "one": TABLE, "other": OTHER}),
    (steps, "how_far", {"canal": CANAL, "one": TABLE, "other": OTHER}),
    (steps, "shortest", {"canal": CANAL, "one": TABLE, "other": OTHER}),
    (steps, "leads", {"canal": CANAL, "one": TABLE, "other": OTHER, "thing": LEADING}),
    (sights, "many_agree", {"canal": CANAL, "sights": SIGHTS}),
    (sights, "span", {"canal": CANAL, "sights": SIGHTS}),
    (sights, "sights_of", {"canal": CANAL, "lock": 1, "book": BOOKS[1]}),
    (sights, "best_lock", {"canal": CANAL, "sights": SIGHTS}),
    (gates, "turns", {"canal": CANAL, "table": TABLE, "gates": GATES}),
    (gates, "evening", {"canal": CANAL, "table": TABLE, "gates": GATES}),
    (gates, "fewest", {"canal": CANAL, "gates": GATES}),
    (gates, "bounds", {"canal": CANAL, "gates": GATES}),
    (gates, "is_fewest", {"canal": CANAL, "gates": GATES, "thing": ((2,), (0,))}),
    (boats, "without", {"canal": CANAL, "table": TABLE, "way": "up", "boat": 1}),
    (boats, "many_unseen", {"canal": CANAL, "table": TABLE, "way": "up", "place": 2}),
    (boats, "unseen", {"canal": CANAL, "table": TABLE, "way": "up", "place": 0}),
    (texts, "row_text", {"canal": CANAL, "row": ROW}),
    (texts, "table_text", {"canal": CANAL, "table": TABLE}),
    (texts, "read_row", {"canal": CANAL, "text": "u1@0 d0@1"}),
    (texts, "read_table", {"canal": CANAL, "text": "1/0"}),
)


def deep(kind):
    """Something eight deep."""
    told = 0
    for _ in range(8):
        told = kind(told)
    return told


# Things that are none of what is asked for, of whatever kind.
ODD = (
    None, True, False, "", "up", "down", "x" * 2000, "d0@1\t\n~", [], {}, [[]], ((),), [()],
    {"up": 0}, {0: (), "a": [None]}, -1, 6, 7, 10 ** 12 - 1, 1 - 10 ** 12, (None,), (True,),
    deep(lambda part: (part,)), deep(lambda part: [part]), deep(lambda part: {0: part}),
    (0,) * 2000, [0] * 2000, ("up",) * 2000, ((0, 0, 0),) * 400, ({}, [], ()), (1, 2, 3, 4),
)
NEAR = {
    "canal": (
        list(CANAL), CANAL[:2], CANAL + (1,), (0, 2, 1), (6, 2, 1), (2, 5, 1), (2, -1, 1),
        (2, 2, 5), (2, 2, -1), (True, 2, 1), (2, True, 1), (2, 2, True), ("2", 2, 1), (),
        ((2,), 2, 1), (2, [2], 1), (2, 2, None),
    ),
    "row": (
        list(ROW), (list(ROW[0]),), (ROW[0][:2],), (ROW[0] + (0,),), (("up", 2, 0),),
        (("up", -1, 0),), (("down", 1, 0),), (("up", 0, 2),), (("up", 0, -1),),
        (("up", False, 0),), (("up", 0, False),), (("up", True, 0),), (("Up", 0, 0),),
        ((True, 0, 0),), (("up", 0, "0"),), (("up", None, 0),), ROW + (None,), ROW[0],
        ((("up",), 0, 0),), ((["up"], 0, 0),), (({}, 0, 0),), ("up", 0, 0), ROW + ("u0@0",),
    ),
    "day": (
        list(DAY), DAY[:-1], DAY + DAY[:1], DAY[::-1], (), ROW, DAY[1:],
        DAY[:-1] + (list(DAY[-1]),), DAY[:-1] + (("up", True, True),),
        tuple((way, bool(boat), bool(lock)) for way, boat, lock in DAY),
        (("up", 2, 0),) + DAY[1:], DAY[:-1] + (None,),
    ),
    "table": (
        list(TABLE), (list(TABLE[0]), TABLE[1]), TABLE[:1], TABLE + TABLE[1:], ((0,), (1,)),
        ((3,), (0,)), ((1,), (-1,)), ((True,), (0,)), ((1,), (False,)), ((1, 1), (0, 0)),
        ((), ()), (), ((1,), ("0",)), ((1,), (None,)), (1, 0), ((1,), 0),
    ),
    "lock": (-1, 2, "0", (0,), [0], (), 0 - 10 ** 11),
    "books": (
        list(BOOKS), (list(BOOKS[0]), BOOKS[1]), BOOKS[:1], BOOKS + BOOKS[:1], (),
        (BOOKS[0], ("up", "up", "up")), (BOOKS[0], ("up", "down")),
        (BOOKS[0], ("up", "up", "down", "down")), (BOOKS[0], ("up", "up", True)), ((), ()),
        (BOOKS[0], "upupdown"), (BOOKS[0], ("up", "up", ["down"])),
    ),
    "number": (-1, 6, "5", (5,), [5], (), 5 - 10 ** 11),
    "sights": (
        list(SIGHTS), (list(SIGHTS[0]),), SIGHTS[0], SIGHTS + (SIGHTS[0][:3],), SIGHTS + (None,),
        SIGHTS * 51, ((2, 0, 0, 1),), ((1, 1, 0, 1),), ((1, 0, 2, 1),), ((1, 0, 0, 3),),
        ((1, 0, -1, 0),), ((-1, 0, 0, 1),), ((True, 0, 0, 1),), ((1, False, 0, 1),),
        ((1, 0, False, 1),), ((1, 0, 0, True),), ((1, 0, "0", 1),),
    ),
    "book": (
        list(BOOKS[0]), BOOKS, BOOKS[0][:2], BOOKS[0] + ("up",), ("up", "up", "up"), (),
        ("up", "down", "down"), ("up", "up", True), ("up", "up", ["down"]), ("up", "up", "Down"),
    ),
    "gates": (
        list(GATES), GATES[:1], GATES + GATES[:1], (), ("high", "Low"), ("high", True),
        ("high", ["low"]), (GATES, GATES), {"high": "low"}, ("up", "down"),
    ),
    "leading": (
        list(LEADING), LEADING[1:], LEADING[:-1], LEADING[::-1], LEADING[:1] + LEADING, (),
        LEADING[:2] + LEADING[3:], LEADING[:1] + (((2,), (False,)),) + LEADING[2:],
        (((True,), (0,)),) + LEADING[1:], LEADING[:3] + ([(2,), (2,)],), LEADING + (None,),
    ),
}
NEAR["one"] = NEAR["other"] = NEAR["table"]
NEAR["way"] = ("Up", "u", "d", "up ", " down", ("up",), ["down"], {"up": "down"}, "updown")
NEAR["boat"] = NEAR["lock"]
NEAR["place"] = (-1, 3, "0", (0,), [0], (), 0 - 10 ** 11)
NEAR["text"] = (
    "u1@0  d0@1", "u1@0 d0@1 ", " u1@0 d0@1", "u2@0", "u1@2", "u01@0", "U1@0", "1/0 ", " 1/0",
    "0/1", "1/00", "1,0", "1/0/0", "3/0", ("1/0",), ["1/0"], (("up", 1, 0),), TABLE, "None",
)
REFUSED = {
    "canal": NoCanal, "row": NoRow, "day": NoDay, "table": NoTable, "lock": NoLock,
    "books": NoBooks, "number": NoNumber, "one": NoTable, "other": NoTable, "sights": NoSights,
    "book": NoBook, "gates": NoGates, "way": NoWay, "boat": NoBoat, "place": NoPlace,
    "text": NoText,
}
# Whether a thing is what, where it isn't asked of a day.
KINDS = {"is_canal": "canal", "is_table": "table", "leads": "leading", "is_fewest": "table"}


def wrong(name):
    """All things that are refused as such an argument."""
    right = ("up", "down") if name == "way" else ()
    return tuple(thing for thing in ODD if thing not in right) + NEAR[name]


class Asking(unittest.TestCase):
    def refused(self, kind, ask, given):
        before = copy.deepcopy(given)
        with self.assertRaises(ValueError) as caught:
            ask(**given)
        self.assertIs(type(caught.exception), kind, given)
        self.assertEqual(repr(given), repr(before))

    def test_the_names_and_where_they_stand(self):
        for module, name, given in ASKED:
            ask = getattr(module, name)
            self.assertEqual(ask.__module__, module.__name__)
            self.assertEqual(list(inspect.signature(ask).parameters), list(given))

    def test_by_place_or_by_name_in_any_order(self):
        for module, name, given in ASKED:
            ask = getattr(module, name)
            told = ask(*given.values())
            for order in permutations(given):
                self.assertEqual(repr(ask(**{key: given[key] for key in order})), repr(told))
            first, *rest = given
            self.assertEqual(ask(given[first], **{key: given[key] for key in rest}), told)

    def test_the_same_question_has_the_same_answer(self):
        for module, name, given in ASKED:
            ask = getattr(module, name)
            before = copy.deepcopy(given)
            first = ask(**given)
            self.assertEqual(repr(first), repr(ask(**copy.deepcopy(given))))
            self.assertEqual(repr(given), repr(before))

    def test_refusals_of_each_argument(self):
        for module, name, given in ASKED:
            for key in given:
                if key in REFUSED:
                    for thing in wrong(key):
                        self.refused(REFUSED[key], getattr(module, name), {**given, key: thing})

    def test_of_several_wrong_ones_the_left_one(self):
        for module, name, given in ASKED:
            keys = list(given)
            for at, key in enumerate(keys):
                for thing in wrong(key) if key in REFUSED else ():
                    for other in (None, True, [], {}, (), "x", ((),), -1):
                        rest = {late: other for late in keys[at + 1:]}
                        asked = {**given, key: thing, **rest}
                        self.refused(REFUSED[key], getattr(module, name), asked)

    def test_no_row_goes_ahead_of_barred(self):
        barred = (("up", 0, 1),)
        for ask in (canals.pounds, canals.next_ones):
            self.refused(Barred, ask, {"canal": CANAL, "row": barred})
            self.refused(NoRow, ask, {"canal": CANAL, "row": barred + (("up", 0, 5),)})
            self.refused(NoCanal, ask, {"canal": (0, 0, 0), "row": barred})

    def test_no_sights_goes_ahead_of_none_agree(self):
        crossed = ((0, 0, 0, 0), (1, 0, 1, 2))
        self.refused(NoneAgree, sights.best_lock, {"canal": CANAL, "sights": crossed})
        self.refused(NoSights, sights.best_lock, {"canal": CANAL, "sights": crossed + (None,)})
        self.refused(NoSights, sights.best_lock, {"canal": CANAL, "sights": crossed * 51})

    def test_too_many_goes_behind_all_else(self):
        table = ((1,), (1,), (0,), (0,))
        for ask in (boats.many_unseen, boats.unseen):
            given = {"canal": (2, 4, 1), "table": table, "way": "up", "place": 4}
            self.refused(TooMany, ask, given)
            self.refused(NoPlace, ask, {**given, "place": 5})
            self.refused(NoPlace, ask, {**given, "place": True})
            self.refused(NoWay, ask, {**given, "way": None, "place": 5})
            self.refused(NoTable, ask, {**given, "table": table[:3], "way": None})
            self.refused(NoCanal, ask, {**given, "canal": (2, 5, 1), "table": table[:3]})

    def test_of_anything_it_is_told_whether(self):
        for module, name, given in ASKED:
            if "thing" not in given:
                continue
            ask = getattr(module, name)
            rest = {key: given[key] for key in given if key != "thing"}
            self.assertIs(ask(**given), True)
            for thing in wrong(KINDS.get(name, "day")):
                before = copy.deepcopy(thing)
                self.assertIs(ask(thing=thing, **rest), False, thing)
                self.assertEqual(repr(thing), repr(before))

    def test_what_was_told_may_be_handed_in_again(self):
        canal = (5, 4, 4)
        day = canals.least_day(canal)
        self.assertIsNone(canals.first_bar(canal, day))
        table = tables.table_of(canal, day)
        books = tuple(tables.book(canal, table, lock) for lock in range(5))
        self.assertEqual(tables.of_books(canal, books), table)
        self.assertEqual(days.day_of(canal, table), day)
        self.assertEqual(days.backward(canal, days.backward(canal, day)), day)
        last = numbers.table_at(canal, numbers.many_tables(canal) - 1)
        way = steps.shortest(canal, table, last)
        self.assertIs(steps.leads(canal, table, last, way), True)
        self.assertEqual(sights.best_lock(canal, sights.sights_of(canal, 3, books[3]))[0], 1)
        late = gates.evening(canal, way[40], ("low",) * 5)
        self.assertIs(gates.is_fewest(canal, late, gates.fewest(canal, late)[1]), True)
        fewer = boats.without(canal, last, "up", 2)
        least, greatest = boats.unseen((5, 3, 4), fewer, "up", 2)
        for line in (least, greatest):
            more = fewer[:2] + (line,) + fewer[2:]
            self.assertEqual(boats.without(canal, more, "up", 2), fewer)
        self.assertEqual(texts.read_row(canal, texts.row_text(canal, day)), day)
        self.assertEqual(texts.read_table(canal, texts.table_text(canal, table)), table)

    def test_all_that_is_told_is_of_plain_kinds(self):
        def check(told):
            self.assertIn(type(told), (int, str, tuple, bool, type(None)))
            if type(told) is tuple:
                for part in told:
                    self.assertIsNot(type(part), bool)
                    check(part)

        for module, name, given in ASKED:
            check(getattr(module, name)(**given))


if __name__ == "__main__":
    unittest.main()
