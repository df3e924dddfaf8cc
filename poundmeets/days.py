"""The days of a table, and what becomes of a day that is changed or turned."""

from poundmeets.canals import is_day, need_day
from poundmeets.tables import lock_books, need_table, table_of


def days_of(canal, table):
    """Tell how many days have the table."""
    need_table(canal, table)
    entries = entries_of(canal, table)
    waits = waits_of(entries)
    # Days that have brought each lock equally far go on alike, so they are
    # counted together: the days are too many, these counts are not.
    many = {(0,) * len(entries): 1}
    for _ in range(sum([len(line) for line in entries])):
        further = {}
        for counts, days in many.items():
            for lock in ready_locks(waits, counts):
                onward = one_more(counts, lock)
                further[onward] = further.get(onward, 0) + days
        many = further
    return sum(list(many.values()))


def day_of(canal, table):
    """Tell the least day that has the table."""
    need_table(canal, table)
    entries = entries_of(canal, table)
    waits = waits_of(entries)
    counts = (0,) * len(entries)
    day = []
    # No passing that is ready shuts another out, so the least one may go first.
    for _ in range(sum([len(line) for line in entries])):
        passing = min([entries[lock][counts[lock]] for lock in ready_locks(waits, counts)])
        day.append(passing)
        counts = one_more(counts, passing[2])
    return tuple(day)


def entries_of(canal, table):
    """Tell for each lock the list of its passings, in the order of its book."""
    told = []
    for lock, ways in enumerate(lock_books(canal, table)):
        boats = {"up": 0, "down": 0}
        line = []
        for way in ways:
            line.append((way, boats[way], lock))
            boats[way] += 1
        told.append(line)
    return told


def waits_of(entries):
    """Tell for each passing of each lock what it waits for.

    That is (lock, count): the lock that the boat passes just before, and how
    many passings there must have been there; None where this lock is its first.
    """
    places = {passing: at for line in entries for at, passing in enumerate(line)}
    return [
        [wait_of(places, way, boat, lock) for way, boat, lock in line] for line in entries
    ]


def wait_of(places, way, boat, lock):
    """Tell what one passing waits for, by the place of each in its lock's book."""
    before = lock - 1 if way == "up" else lock + 1
    place = places.get((way, boat, before), None)
    return None if place is None else (before, place + 1)


def ready_locks(waits, counts):
    """Tell the locks whose next passing can be, with so many at each lock so far."""
    told = []
    for lock, count in enumerate(counts):
        if count < len(waits[lock]):
            wait = waits[lock][count]
            if wait is None or counts[wait[0]] >= wait[1]:
                told.append(lock)
    return told


def one_more(counts, lock):
    """Tell the counts with one more at a lock."""
    return counts[:lock] + (counts[lock] + 1,) + counts[lock + 1 :]


def is_day_of(canal, table, thing):
    """Tell whether thing is a day that has the table."""
    need_table(canal, table)
    return is_day(canal, thing) and table_of(canal, thing) == table


def exchanges(canal, day):
    """Tell (same, other): where two passings can be exchanged, as the table goes."""
    need_day(canal, day)
    same = []
    other = []
    for at in range(len(day) - 1):
        one, two = day[at], day[at + 1]
        if is_day(canal, day[:at] + (two, one) + day[at + 2 :]):
            # Two of one way never change their order at one lock, so what is
            # exchanged at one lock are boats of unlike ways.
            if one[2] == two[2]:
                other.append(at)
            else:
                same.append(at)
    return tuple(same), tuple(other)


def backward(canal, day):
    """Tell the day gone backward, of the canal with ups and downs exchanged."""
    need_day(canal, day)
    _, ups, downs = canal
    lasts = {"up": ups - 1, "down": downs - 1}
    return tuple(
        [(other_way(way), lasts[way] - boat, lock) for way, boat, lock in reversed(day)]
    )


def upside_down(canal, day):
    """Tell the day upside down, of the canal with ups and downs exchanged."""
    need_day(canal, day)
    top = canal[0] - 1
    return tuple([(other_way(way), boat, top - lock) for way, boat, lock in day])


def other_way(way):
    """Tell the way that the boats from the other end go."""
    return "down" if way == "up" else "up"


def backward_table(canal, table):
    """Tell the table that the days of a table have when they are gone backward."""
    need_table(canal, table)
    _, ups, downs = canal
    return tuple(
        [
            tuple([table[up][down] for up in reversed(range(ups))])
            for down in reversed(range(downs))
        ]
    )


def upside_down_table(canal, table):
    """Tell the table that the days of a table have upside down."""
    need_table(canal, table)
    locks, ups, downs = canal
    return tuple(
        [tuple([locks - table[up][down] for up in range(ups)]) for down in range(downs)]
    )
