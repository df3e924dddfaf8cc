"""Tables of meetings, and the books that the lock keepers write."""

from poundmeets.canals import need_canal, need_day
from poundmeets.errors import NoBooks, NoLock, NoTable
from poundmeets.kinds import has_parts, is_between


def is_table(canal, thing):
    """Tell whether thing is a table of the canal."""
    need_canal(canal)
    return has_shape(canal, thing) and is_stepped(thing)


def has_shape(canal, thing):
    """Tell whether thing has, for each two boats of unlike ways, a pound."""
    locks, ups, downs = canal
    if not has_parts(thing, ups) or not all([has_parts(line, downs) for line in thing]):
        return False
    return all([is_between(pound, 0, locks) for line in thing for pound in line])


def is_stepped(table):
    """Tell whether no pound rises from an up boat to the next or falls in a line."""
    never_rises = all(
        [
            behind <= ahead
            for line, line_behind in zip(table, table[1:])
            for ahead, behind in zip(line, line_behind)
        ]
    )
    never_falls = all(
        [ahead <= behind for line in table for ahead, behind in zip(line, line[1:])]
    )
    return never_rises and never_falls


def need_table(canal, table):
    """Refuse what is no canal, then what is no table of it."""
    if not is_table(canal, table):
        raise NoTable("a table has a line of pounds for each up boat, in steps")


def need_lock(canal, lock):
    """Refuse what is no lock of the canal."""
    if not is_between(lock, 0, canal[0] - 1):
        raise NoLock("a lock is a whole number from 0 on, less than the locks are")


def table_of(canal, day):
    """Tell the table of where all meet on a day."""
    need_day(canal, day)
    seen = [
        [passing[0] for passing in day if passing[2] == lock] for lock in range(canal[0])
    ]
    return table_from(canal, seen)


def table_from(canal, books):
    """Tell for each two boats of unlike ways at how many locks the up one is ahead."""
    _, ups, downs = canal
    # The locks at which the up boat is ahead are those below where the two meet.
    ahead = [ups_ahead(entries) for entries in books]
    return tuple(
        [
            tuple([len([1 for many in ahead if up < many[down]]) for down in range(downs)])
            for up in range(ups)
        ]
    )


def ups_ahead(entries):
    """Tell for each down boat of a book how many up boats pass ahead of it."""
    told = []
    ups = 0
    for way in entries:
        if way == "up":
            ups += 1
        else:
            told.append(ups)
    return told


def book(canal, table, lock):
    """Tell the book that a lock has on each day of a table."""
    need_table(canal, table)
    need_lock(canal, lock)
    return lock_book(canal, table, lock)


def lock_book(canal, table, lock):
    """Tell the book of a lock, of a table and a lock known to be such."""
    _, ups, downs = canal
    entries = []
    through = 0
    for down in range(downs):
        while through < ups and table[through][down] > lock:
            entries.append("up")
            through += 1
        entries.append("down")
    return tuple(entries + ["up"] * (ups - through))


def lock_books(canal, table):
    """Tell the books of all locks, of a table known to be one."""
    return tuple([lock_book(canal, table, lock) for lock in range(canal[0])])


def is_book(canal, thing):
    """Tell whether thing has as many ways of each kind as there are boats."""
    _, ups, downs = canal
    if not has_parts(thing, ups + downs):
        return False
    return thing.count("up") == ups and thing.count("down") == downs


def need_books(canal, books):
    """Refuse what is no canal, then what are no books of its locks."""
    need_canal(canal)
    fits = has_parts(books, canal[0]) and all([is_book(canal, part) for part in books])
    if not fits:
        raise NoBooks("books are a tuple with a book, a tuple of ways, for each lock")


def of_books(canal, books):
    """Tell the table of which the books are, None where they are of none."""
    need_books(canal, books)
    table = table_from(canal, books)
    return table if lock_books(canal, table) == books else None
