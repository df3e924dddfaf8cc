"""All tables of a canal in rising order, and the number of each among them.

A table is filled up boat by up boat, down boat by down boat: the place up * downs
+ down is that of the pound of these two. Limits are a list with, for each place,
(low, high): the least and the greatest pound let there. The front has, for each
down boat, the pound filled in last, that with the last up boat so far.
"""

from poundmeets.canals import need_canal
from poundmeets.errors import NoNumber
from poundmeets.kinds import is_between
from poundmeets.tables import need_table


def many_tables(canal):
    """Tell how many tables the canal has."""
    need_canal(canal)
    return many_within(canal, widest(canal))


def number_of(canal, table):
    """Tell the number of a table among all, rising, from 0."""
    need_table(canal, table)
    limits = widest(canal)
    known = {}
    front = first_front(canal)
    number = 0
    for at, pound in enumerate([part for line in table for part in line]):
        for less in pounds_let(limits, at, front):
            if less < pound:
                number += many_onward(limits, known, at + 1, filled(front, at, less))
        front = filled(front, at, pound)
    return number


def table_at(canal, number):
    """Tell the table that has a number."""
    need_canal(canal)
    _, ups, downs = canal
    limits = widest(canal)
    known = {}
    front = first_front(canal)
    if not is_between(number, 0, many_onward(limits, known, 0, front) - 1):
        raise NoNumber("a number is a whole number from 0 on, less than the tables are")
    table = []
    for up in range(ups):
        for at in range(up * downs, (up + 1) * downs):
            front, number = front_at(limits, known, at, front, number)
        # Behind the last down boat the front is the up boat's own line.
        table.append(front)
    return tuple(table)


def front_at(limits, known, at, front, number):
    """Tell the front behind a place, and the number among the tables that go on so.

    The number told of is that of the table wanted among those with the front before.
    """
    further = front
    for pound in pounds_let(limits, at, front):
        further = filled(front, at, pound)
        many = many_onward(limits, known, at + 1, further)
        if number < many:
            break
        number -= many
    return further, number


def widest(canal):
    """Tell the limits that leave all pounds to all boats."""
    locks, ups, downs = canal
    return [(0, locks)] * (ups * downs)


def first_front(canal):
    """Tell the front before anything is filled in: one that hinders nothing."""
    locks, _, downs = canal
    return (locks,) * downs


def filled(front, at, pound):
    """Tell the front behind a place that gets a pound."""
    down = at % len(front)
    return front[:down] + (pound,) + front[down + 1 :]


def pounds_let(limits, at, front):
    """Tell the rising list of the pounds that a place may get."""
    low, high = limits[at]
    down = at % len(front)
    if down > 0:
        low = max(low, front[down - 1])
    return list(range(low, min(high, front[down]) + 1))


def many_within(canal, limits):
    """Tell how many tables of the canal lie within limits."""
    return many_onward(limits, {}, 0, first_front(canal))


def many_onward(limits, known, at, front):
    """Tell in how many ways the places from one on can be filled."""
    if at == len(limits):
        return 1
    # Whatever leads to the same front goes on alike, so it is counted once.
    key = (at, front)
    if key not in known:
        known[key] = sum(
            [
                many_onward(limits, known, at + 1, filled(front, at, pound))
                for pound in pounds_let(limits, at, front)
            ]
        )
    return known[key]
