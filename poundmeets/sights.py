"""What was seen of the meetings, what it leaves open, and which book tells most."""

from poundmeets.canals import WAYS, boats_of, need_canal
from poundmeets.errors import NoBook, NoneAgree, NoSights
from poundmeets.kinds import has_parts, is_between
from poundmeets.numbers import many_within
from poundmeets.tables import is_book, need_lock, ups_ahead

MOST_SIGHTS = 100


def is_sight(canal, thing):
    """Tell whether thing is a sight (up, down, low, high) on the canal."""
    if not has_parts(thing, 4):
        return False
    locks, ups, downs = canal
    up, down, low, high = thing
    if not is_between(up, 0, ups - 1) or not is_between(down, 0, downs - 1):
        return False
    return is_between(low, 0, locks) and is_between(high, low, locks)


def need_sights(canal, sights):
    """Refuse what is no canal, then what are no sights on it."""
    need_canal(canal)
    fits = isinstance(sights, tuple) and len(sights) <= MOST_SIGHTS
    if not fits or not all([is_sight(canal, part) for part in sights]):
        raise NoSights("sights are a tuple of up to a hundred tuples (up, down, low, high)")


def limits_of(canal, sights):
    """Tell for each two boats, up boat by up boat, (low, high) as all sights leave it."""
    locks, ups, downs = canal
    lows = [0] * (ups * downs)
    highs = [locks] * (ups * downs)
    for up, down, low, high in sights:
        at = up * downs + down
        lows[at] = max(lows[at], low)
        highs[at] = min(highs[at], high)
    return list(zip(lows, highs))


def many_agree(canal, sights):
    """Tell how many tables agree with all sights."""
    need_sights(canal, sights)
    return many_within(canal, limits_of(canal, sights))


def span(canal, sights):
    """Tell (least, greatest) of the tables that agree, None where none do."""
    need_sights(canal, sights)
    _, ups, downs = canal
    limits = limits_of(canal, sights)
    pairs = [(up, down) for up in range(ups) for down in range(downs)]
    lows = [least_pound(canal, limits, up, down) for up, down in pairs]
    highs = [greatest_pound(canal, limits, up, down) for up, down in pairs]
    if any([low > high for low, high in zip(lows, highs)]):
        return None
    return in_lines(canal, lows), in_lines(canal, highs)


def least_pound(canal, limits, up, down):
    """Tell the least pound that the lower limits leave to two boats."""
    _, ups, downs = canal
    # No pound is less than that of an up boat behind with a down boat ahead.
    return max(
        [limits[late * downs + soon][0] for late in range(up, ups) for soon in range(down + 1)]
    )


def greatest_pound(canal, limits, up, down):
    """Tell the greatest pound that the upper limits leave to two boats."""
    downs = canal[2]
    # No pound is greater than that of an up boat ahead with a down boat behind.
    return min(
        [limits[soon * downs + late][1] for soon in range(up + 1) for late in range(down, downs)]
    )


def in_lines(canal, pounds):
    """Tell the table that has these pounds, up boat by up boat."""
    _, ups, downs = canal
    return tuple([tuple(pounds[up * downs : (up + 1) * downs]) for up in range(ups)])


def sights_of(canal, lock, book):
    """Tell the sights, for each two boats one, that say as much as a lock's book."""
    need_canal(canal)
    need_lock(canal, lock)
    if not is_book(canal, book):
        raise NoBook("a book is a tuple with each boat's way, up or down")
    return book_sights(canal, lock, book)


def book_sights(canal, lock, ways):
    """Tell the sights of a book, of a lock and a book known to be such."""
    locks, ups, downs = canal
    ahead = ups_ahead(ways)
    # Just where the up boat is ahead at the lock the two meet beyond it.
    return tuple(
        [
            (up, down, lock + 1, locks) if up < ahead[down] else (up, down, 0, lock)
            for up in range(ups)
            for down in range(downs)
        ]
    )


def all_books(canal):
    """Tell the rising list of all books that a lock of the canal can have."""
    books = [()]
    for _ in range(canal[1] + canal[2]):
        books = [
            ways + (way,)
            for ways in books
            for way in WAYS
            if ways.count(way) < boats_of(canal, way)
        ]
    return books


def best_lock(canal, sights):
    """Tell (lock, most): the lock whose book leaves the fewest tables at the most."""
    if span(canal, sights) is None:
        raise NoneAgree("no table agrees with the sights")
    most, lock = min([(most_left(canal, sights, lock), lock) for lock in range(canal[0])])
    return lock, most


def most_left(canal, sights, lock):
    """Tell the greatest number of tables that agree and have one book at a lock."""
    return max(
        [
            many_within(canal, limits_of(canal, sights + book_sights(canal, lock, ways)))
            for ways in all_books(canal)
        ]
    )
