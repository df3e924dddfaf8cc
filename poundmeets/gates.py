"""Locks that stand wrong: how often they are turned, and how seldom they can be."""

from poundmeets.canals import need_canal
from poundmeets.errors import NoGates
from poundmeets.kinds import has_parts
from poundmeets.sights import all_books
from poundmeets.tables import is_table, lock_books, need_table, table_from, ups_ahead

# How a boat of each way finds the lock that it goes into, and how it leaves it.
AHEAD = {"up": "low", "down": "high"}
BEHIND = {"up": "high", "down": "low"}


def need_gates(canal, gates):
    """Refuse what are no gates of a canal known to be one."""
    fits = has_parts(gates, canal[0]) and all([gate in ("low", "high") for gate in gates])
    if not fits:
        raise NoGates("gates are a tuple with low or high for each lock")


def turns(canal, table, gates):
    """Tell the tuple of how often each lock is turned on a day of a table."""
    need_table(canal, table)
    need_gates(canal, gates)
    return tuple(turns_of(canal, table, gates))


def evening(canal, table, gates):
    """Tell the gates in the evening of a day of a table."""
    need_table(canal, table)
    need_gates(canal, gates)
    books = lock_books(canal, table)
    return tuple([BEHIND[ways[-1]] if ways else gate for ways, gate in zip(books, gates)])


def turns_of(canal, table, gates):
    """Tell the list of how often each lock is turned, of what is known to be right."""
    return [turns_at(gate, ways) for gate, ways in zip(gates, lock_books(canal, table))]


def turns_at(gate, ways):
    """Tell how often a lock that stands so in the morning is turned for its book."""
    many = 0
    for way in ways:
        if gate != AHEAD[way]:
            many += 1
        gate = BEHIND[way]
    return many


def books_above(canal):
    """Tell for each book the rising list of those that the lock above can have then."""
    ahead = {ways: ups_ahead(ways) for ways in all_books(canal)}
    # An up boat that is ahead above was ahead at each lock below, too.
    return {
        ways: [
            upper
            for upper, fewer in ahead.items()
            if all([few <= many for few, many in zip(fewer, ahead[ways])])
        ]
        for ways in ahead
    }


def fewest_upward(gates, above):
    """Tell for each lock, for each book, the fewest turns of it and all above it."""
    told = []
    # Above the last lock nothing is turned.
    beyond = {ways: 0 for ways in above}
    for gate in reversed(gates):
        beyond = {
            ways: turns_at(gate, ways) + min([beyond[upper] for upper in above[ways]])
            for ways in above
        }
        told.append(beyond)
    return told[::-1]


def fewest(canal, gates):
    """Tell (many, table): the fewest turns of all locks, and a table with so few."""
    need_canal(canal)
    need_gates(canal, gates)
    above = books_above(canal)
    upwards = fewest_upward(gates, above)
    fit = list(above)
    books = []
    for upward in upwards:
        _, best = min([(upward[ways], ways) for ways in fit])
        books.append(best)
        fit = above[best]
    return upwards[0][books[0]], table_from(canal, books)


def bounds(canal, gates):
    """Tell for each lock the rising tuple of (book, many), its fewest turns upward."""
    need_canal(canal)
    need_gates(canal, gates)
    told = fewest_upward(gates, books_above(canal))
    return tuple([tuple(sorted(list(upward.items()))) for upward in told])


def is_fewest(canal, gates, thing):
    """Tell whether thing is a table that has the fewest turns."""
    need_canal(canal)
    need_gates(canal, gates)
    if not is_table(canal, thing):
        return False
    lowest = fewest_upward(gates, books_above(canal))[0]
    return sum(turns_of(canal, thing, gates)) == min(list(lowest.values()))
