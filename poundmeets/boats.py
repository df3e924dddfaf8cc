"""A boat fewer in a table, and a boat more that nobody saw."""

from poundmeets.canals import MOST_BOATS, boats_of, need_boat, need_way
from poundmeets.errors import NoPlace, TooMany
from poundmeets.kinds import is_between
from poundmeets.numbers import many_within
from poundmeets.tables import need_table


def without(canal, table, way, boat):
    """Tell the table without a boat, of the canal of one boat fewer."""
    need_table(canal, table)
    need_way(way)
    need_boat(canal, way, boat)
    if way == "up":
        return table[:boat] + table[boat + 1 :]
    return tuple([line[:boat] + line[boat + 1 :] for line in table])


def need_unseen(canal, table, way, place):
    """Refuse what leaves no room for one boat more of a way, at a place."""
    need_table(canal, table)
    need_way(way)
    boats = boats_of(canal, way)
    if not is_between(place, 0, boats):
        raise NoPlace("a place is a whole number from 0 to how many boats of the way there are")
    if boats == MOST_BOATS:
        raise TooMany(boats + 1, MOST_BOATS)


def many_unseen(canal, table, way, place):
    """Tell how many tables with one boat more, at a place, become this one without it."""
    need_unseen(canal, table, way, place)
    locks, ups, downs = canal
    least, greatest = edges(canal, table, way, place)
    # The boats that were seen hinder the other one by their pounds alone, so
    # it may be counted by itself, as the one boat of its way.
    alone = (locks, 1, downs) if way == "up" else (locks, ups, 1)
    return many_within(alone, list(zip(least, greatest)))


def unseen(canal, table, way, place):
    """Tell (least, greatest): the pounds in which one boat more, at a place, met the others."""
    need_unseen(canal, table, way, place)
    return edges(canal, table, way, place)


def edges(canal, table, way, place):
    """Tell what unseen tells, of what is known to be right."""
    locks, ups, downs = canal
    # The pounds of the next boats of its way bound those of the boat, and they
    # are in steps themselves, so all least ones, and all greatest, make a table.
    if way == "up":
        lines = [(locks,) * downs] + list(table) + [(0,) * downs]
        return lines[place + 1], lines[place]
    columns = [tuple([line[down] for line in table]) for down in range(downs)]
    columns = [(0,) * ups] + columns + [(locks,) * ups]
    return columns[place], columns[place + 1]
