"""The point [90]: rows and tables as texts."""

import unittest
from itertools import product

from poundmeets import canals, texts
from poundmeets.errors import NoCanal, NoRow, NoTable, NoText, PoundError
from tests import plain

ODD = (None, True, 0, 12, (), (1,), [], ["-"], {}, {"-": 0}, ("-",), ("u0@0",), "", " ", "\n", "x" * 2000)


class RowText(unittest.TestCase):
    def test_as_it_is_told(self):
        canal = (5, 4, 4)
        self.assertEqual(texts.row_text(canal, (("up", 0, 2),)), "u0@2")
        self.assertEqual(texts.row_text(canal, (("down", 3, 4), ("up", 2, 0))), "d3@4 u2@0")
        self.assertEqual(texts.row_text(canal, ()), "-")

    def test_without_boats(self):
        for canal in ((1, 0, 0), (5, 0, 0)):
            self.assertEqual(texts.row_text(canal, ()), "-")
            self.assertEqual(texts.read_row(canal, "-"), ())
            with self.assertRaises(NoText):
                texts.read_row(canal, "u0@0")

    def test_each_passing_there_and_back(self):
        for canal in product(range(1, 6), range(5), range(5)):
            every = [
                (way, boat, lock)
                for way, many in (("up", canal[1]), ("down", canal[2]))
                for boat in range(many)
                for lock in range(canal[0])
            ]
            text = " ".join(way[0] + str(boat) + "@" + str(lock) for way, boat, lock in every)
            self.assertEqual(texts.row_text(canal, tuple(every)), text or "-")
            self.assertEqual(texts.read_row(canal, text or "-"), tuple(every))

    def test_rows_that_are_not_let(self):
        canal, row = (2, 1, 1), (("up", 0, 1), ("up", 0, 1), ("down", 0, 0))
        self.assertEqual(texts.row_text(canal, row), "u0@1 u0@1 d0@0")
        self.assertEqual(texts.read_row(canal, "u0@1 u0@1 d0@0"), row)

    def test_every_text_of_four_signs(self):
        canal = (2, 2, 1)
        right = {"u0@0", "u0@1", "u1@0", "u1@1", "d0@0", "d0@1"}
        for signs in product("udx", "0129 ", "@a ", "0123-"):
            self.check_row(canal, "".join(signs), right)

    def check_row(self, canal, text, right):
        if text in right:
            self.assertEqual(texts.row_text(canal, texts.read_row(canal, text)), text)
        else:
            with self.assertRaises(NoText):
                texts.read_row(canal, text)

    def test_days_of_the_greatest_canal(self):
        canal = plain.GREATEST
        for day in plain.some_days(canal, 20, 91):
            text = texts.row_text(canal, day)
            self.assertEqual(texts.read_row(canal, text), day)
            self.assertEqual(len(text), 40 * 5 - 1)

    def test_rows_of_eighty_and_more(self):
        for many in (80, 400):
            row = (("up", 0, 1),) * many
            self.assertEqual(texts.read_row((2, 1, 0), texts.row_text((2, 1, 0), row)), row)


class NoRowText(unittest.TestCase):
    def test_what_writes_no_row(self):
        canal = (2, 1, 1)
        self.assertEqual(texts.read_row(canal, "u0@0 d0@1"), (("up", 0, 0), ("down", 0, 1)))
        for text in ODD + (
            "u0@0  d0@1", " u0@0", "u0@0 ", "u0@0\td0@1", "u0@0\n", "u0@0,d0@1", "u0@0 -", "- u0@0",
            "--", "- -", "- ", " -", "-\n", "u00@0", "u0@00", "u0@01", "u00@1", "u1@0", "d1@0", "u0@2",
            "u-1@0", "u0@-1", "U0@0", "up0@0", "up 0 0", "u 0@0", "u0 @0", "u0@ 0", "u0", "u@0", "u0@",
            "0@0", "@", "u", "u+0@0", "u0@0@0", "u0@0u0@1", "x0@0", "u0@0;", "u9@9",
            "u1000000000000@0", "(('up', 0, 0),)",
        ):
            with self.assertRaises(PoundError) as caught:
                texts.read_row(canal, text)
            self.assertIs(type(caught.exception), NoText, text)

    def test_other_refusals(self):
        with self.assertRaises(NoRow):
            texts.row_text((2, 1, 1), (("up", 1, 0),))
        with self.assertRaises(NoRow):
            texts.row_text((2, 1, 1), "u0@0")
        with self.assertRaises(NoRow):
            texts.row_text((2, 1, 1), (("up", 0, False),))
        for canal in ((0, 1, 1), None, [2, 1, 1], "2 1 1"):
            for ask in (texts.row_text, texts.table_text, texts.read_row, texts.read_table):
                with self.assertRaises(NoCanal):
                    ask(canal, None)


class TableText(unittest.TestCase):
    def test_as_it_is_told(self):
        self.assertEqual(texts.table_text((3, 2, 2), ((2, 3), (0, 1))), "2,3/0,1")
        self.assertEqual(texts.read_table((3, 2, 2), "2,3/0,1"), ((2, 3), (0, 1)))
        self.assertEqual(texts.table_text((2, 1, 1), ((0,),)), "0")
        self.assertEqual(texts.table_text((2, 2, 1), ((1,), (0,))), "1/0")
        self.assertEqual(texts.table_text((2, 1, 2), ((0, 2),)), "0,2")

    def test_all_tables_of_small_canals(self):
        for canal in ((1, 1, 1), (2, 2, 2), (1, 3, 2), (3, 1, 2), (5, 1, 1), (2, 3, 2)):
            told = {}
            for table in plain.all_tables(canal):
                text = texts.table_text(canal, table)
                self.assertEqual(text, "/".join(",".join(map(str, line)) for line in table))
                self.assertEqual(texts.read_table(canal, text), table)
                told[text] = table
            self.assertEqual(len(told), len(plain.all_tables(canal)))

    def test_just_the_texts_of_tables(self):
        canal = (2, 2, 1)
        right = {texts.table_text(canal, table) for table in plain.all_tables(canal)}
        for signs in product("0123-,/ ", repeat=3):
            text = "".join(signs)
            if text in right:
                self.assertEqual(texts.table_text(canal, texts.read_table(canal, text)), text)
            else:
                with self.assertRaises(NoText):
                    texts.read_table(canal, text)

    def test_tables_of_the_greatest_canal(self):
        canal = plain.GREATEST
        for table in plain.some_tables(canal, 30, 92):
            self.assertEqual(texts.read_table(canal, texts.table_text(canal, table)), table)

    def test_without_boats_of_a_way(self):
        for locks, many in product(range(1, 6), range(5)):
            for canal, table in (((locks, 0, many), ()), ((locks, many, 0), ((),) * many)):
                self.assertEqual(texts.table_text(canal, table), "-")
                self.assertEqual(texts.read_table(canal, "-"), table)
                for text in ODD + ("/", "//", "0", ",", "-/-", "--", "- ", "none"):
                    with self.assertRaises(NoText):
                        texts.read_table(canal, text)

    def test_what_writes_no_table(self):
        canal = (3, 2, 2)
        for text in ODD + (
            "-", "2,3", "2,3/0,1/0,1", "2,3/0", "2/0", "2,3,3/0,1,1", "3,2/0,1", "0,1/2,3", "2,4/0,1",
            "2,3/0,-1", "2,3/-0,1", "2,03/0,1", "02,3/0,1", "2,3/00,1", "2, 3/0,1", "2,3 /0,1",
            "2,3/0,1 ", " 2,3/0,1", "2,3/0,1\n", "2,3/0,1/", "/2,3/0,1", "2,3//0,1", "2,,3/0,1",
            "2,3/0,", ",3/0,1", "2.3/0.1", "2,3\\0,1", "2,3/0,x", "2,3/0,+1", "2 3/0 1", "23/01",
            "((2, 3), (0, 1))", "2,3/0,1000000000000",
        ):
            with self.assertRaises(PoundError) as caught:
                texts.read_table(canal, text)
            self.assertIs(type(caught.exception), NoText, text)

    def test_no_table(self):
        for thing in (None, "2,3/0,1", ((0, 1), (2, 3)), [(2, 3), (0, 1)], ((2, 3), (0, True))):
            with self.assertRaises(NoTable):
                texts.table_text((3, 2, 2), thing)


class TextsOfWhatIsTold(unittest.TestCase):
    def test_what_may_come_next(self):
        canal = (2, 1, 1)
        told = texts.row_text(canal, canals.next_ones(canal, ()))
        self.assertEqual(told, "d0@1 u0@0")


if __name__ == "__main__":
    unittest.main()
