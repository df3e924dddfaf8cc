"""Rows and tables as texts."""

from poundmeets.canals import all_passings, need_canal, need_row
from poundmeets.errors import NoText
from poundmeets.tables import is_table, need_table

NOTHING = "-"
SIGNS = {"up": "u", "down": "d"}


def row_text(canal, row):
    """Tell the text of a row."""
    need_row(canal, row)
    if len(row) == 0:
        return NOTHING
    return " ".join([passing_text(passing) for passing in row])


def passing_text(passing):
    """Tell the text of one passing."""
    way, boat, lock = passing
    return f"{SIGNS[way]}{boat}@{lock}"


def table_text(canal, table):
    """Tell the text of a table."""
    need_table(canal, table)
    if lacks_a_way(canal):
        return NOTHING
    return "/".join([",".join([str(pound) for pound in line]) for line in table])


def lacks_a_way(canal):
    """Tell whether the canal is without up boats or without down boats."""
    _, ups, downs = canal
    return ups == 0 or downs == 0


def read_row(canal, text):
    """Tell the row that a text writes, of whatever passings of the canal."""
    need_canal(canal)
    need_text(text)
    if text == NOTHING:
        return ()
    # All texts of passings are known, so none has to be taken apart.
    known = {passing_text(passing): passing for passing in all_passings(canal)}
    words = text.split(" ")
    if not all([word in known for word in words]):
        raise NoText("a row's text is its passings, as u0@2, with one blank between, or -")
    return tuple([known[word] for word in words])


def read_table(canal, text):
    """Tell the table that a text writes."""
    need_canal(canal)
    need_text(text)
    table = written_table(canal, text)
    if not is_table(canal, table):
        raise NoText("a table's text is its pounds, as 2,3/0,1, or - without boats of a way")
    return table


def written_table(canal, text):
    """Tell what a text writes: what is no table where the text is none of one."""
    locks, ups, _ = canal
    if lacks_a_way(canal):
        return ((),) * ups if text == NOTHING else None
    known = {str(pound): pound for pound in range(locks + 1)}
    lines = [line.split(",") for line in text.split("/")]
    return tuple([tuple([known.get(word, None) for word in line]) for line in lines])


def need_text(text):
    """Refuse what is no text at all."""
    if not isinstance(text, str):
        raise NoText("a text is asked for")
