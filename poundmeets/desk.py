"""A desk that keeps a day, is told lines, and answers each with a text."""

from poundmeets.canals import WAYS, many_days, next_ones
from poundmeets.day import Day
from poundmeets.errors import NoLine
from poundmeets.texts import row_text, table_text

FIRST_CANAL = (2, 1, 1)
FIGURES = "0123456789"
MOST_FIGURES = 12

# How many numbers stand behind the word of each deed; behind a question none do.
DEEDS = {"canal": 3, "up": 1, "down": 1, "undo": 0}


class Desk:
    """A desk with the day that it keeps."""

    def __init__(self):
        self._day = Day(FIRST_CANAL)

    def say(self, line):
        """Tell the answer to a line."""
        word, told = read_line(line)
        if word in QUESTIONS:
            answer = QUESTIONS[word]
            return answer(self._day)
        if word == "canal":
            self._day = Day(tuple(told))
        elif word in WAYS:
            self._day.go(word, told[0])
        else:
            self._day.undo()
        return "ok"


def read_line(line):
    """Tell the word of a line and the list of its numbers."""
    words = line.split(" ") if isinstance(line, str) else [""]
    word, *figures = words
    known = word in DEEDS or word in QUESTIONS
    fits = known and len(figures) == DEEDS.get(word, 0)
    if not fits or not all([is_number(part) for part in figures]):
        raise NoLine("the desk knows no such line")
    return word, [int(part) for part in figures]


def is_number(word):
    """Tell whether a word is a number in up to twelve figures, no nought ahead."""
    if not 1 <= len(word) <= MOST_FIGURES or not all([sign in FIGURES for sign in word]):
        return False
    return word == "0" or not word.startswith("0")


def spaced(told):
    """Tell whole numbers as words, a hyphen where there are none."""
    return " ".join([str(number) for number in told]) if told else "-"


def show_answer(day):
    """Tell the canal's numbers."""
    return spaced(day.canal())


def row_answer(day):
    """Tell the row so far."""
    return row_text(day.canal(), day.row())


def pounds_answer(day):
    """Tell the pounds of the up boats, then those of the down boats."""
    ups, downs = day.pounds()
    return spaced(ups + downs)


def met_answer(day):
    """Tell how many pairs of boats have met."""
    return str(len(day.met()))


def open_answer(day):
    """Tell how many tables may come."""
    return str(day.may_come())


def table_answer(day):
    """Tell the table of a day that is over."""
    table = day.table()
    # Without up boats the table is empty, and there is one all the same.
    return "none" if table is None else table_text(day.canal(), table)


def next_answer(day):
    """Tell the passings that are let."""
    return row_text(day.canal(), next_ones(day.canal(), day.row()))


def days_answer(day):
    """Tell how many days the canal has."""
    return str(many_days(day.canal()))


QUESTIONS = {
    "show": show_answer,
    "row": row_answer,
    "pounds": pounds_answer,
    "met": met_answer,
    "open": open_answer,
    "table": table_answer,
    "next": next_answer,
    "days": days_answer,
}
