"""Canals, and the rows of passings on them."""

from math import comb, factorial

from poundmeets.errors import Barred, NoBoat, NoCanal, NoDay, NoRow, NoWay
from poundmeets.kinds import has_parts, is_between

MOST_LOCKS = 5
MOST_BOATS = 4

# In the order in which Python compares them, as a rising tuple wants it.
WAYS = ("down", "up")


def is_canal(thing):
    """Tell whether thing is a canal (locks, ups, downs)."""
    if not has_parts(thing, 3):
        return False
    locks, ups, downs = thing
    boats_fit = is_between(ups, 0, MOST_BOATS) and is_between(downs, 0, MOST_BOATS)
    return is_between(locks, 1, MOST_LOCKS) and boats_fit


def need_canal(canal):
    """Refuse what is no canal."""
    if not is_canal(canal):
        raise NoCanal("a canal is (locks, ups, downs): 1 to 5, 0 to 4, 0 to 4")


def boats_of(canal, way):
    """Tell how many boats of a way the canal has."""
    _, ups, downs = canal
    return ups if way == "up" else downs


def need_way(way):
    """Refuse what is no way."""
    if way not in WAYS:
        raise NoWay("a way is up or down")


def need_boat(canal, way, boat):
    """Refuse what is no boat of a way, of a canal and a way known to be such."""
    if not is_between(boat, 0, boats_of(canal, way) - 1):
        raise NoBoat("a boat is a whole number from 0 on, less than its way's boats are")


def is_passing(canal, thing):
    """Tell whether thing is a passing (way, boat, lock) of the canal."""
    if not has_parts(thing, 3):
        return False
    way, boat, lock = thing
    if way not in WAYS or not is_between(boat, 0, boats_of(canal, way) - 1):
        return False
    return is_between(lock, 0, canal[0] - 1)


def is_row(canal, thing):
    """Tell whether thing is a row of the canal."""
    return isinstance(thing, tuple) and all([is_passing(canal, part) for part in thing])


def need_row(canal, row):
    """Refuse what is no canal, then what is no row of it."""
    need_canal(canal)
    if not is_row(canal, row):
        raise NoRow("a row is a tuple of passings (way, boat, lock) of the canal")


def morning(canal):
    """Tell for each way the list of the pounds in which its boats begin."""
    locks, ups, downs = canal
    return {"up": [0] * ups, "down": [locks] * downs}


def is_let(places, passing):
    """Tell whether a passing is let while the boats are in these places."""
    way, boat, lock = passing
    fleet = places[way]
    if way == "up":
        return fleet[boat] == lock and (boat == 0 or fleet[boat - 1] > lock)
    return fleet[boat] == lock + 1 and (boat == 0 or fleet[boat - 1] <= lock)


def move(places, passing):
    """Bring the boat of a passing into the pound beyond the lock."""
    way, boat, lock = passing
    places[way][boat] = lock + 1 if way == "up" else lock


def walk(canal, row):
    """Tell the boats' places behind a row, or at its first bar, and that bar."""
    places = morning(canal)
    for at, passing in enumerate(row):
        if not is_let(places, passing):
            return places, at
        move(places, passing)
    return places, None


def places_behind(canal, row):
    """Tell the boats' places behind a row, which must be let."""
    need_row(canal, row)
    places, bar = walk(canal, row)
    if bar is not None:
        raise Barred(f"the passing at the place {bar} is not let")
    return places


def first_bar(canal, row):
    """Tell the place of the first passing that isn't let, None where all are."""
    need_row(canal, row)
    _, bar = walk(canal, row)
    return bar


def pounds(canal, row):
    """Tell (ups, downs): the pound of each boat behind a row that is let."""
    places = places_behind(canal, row)
    return tuple(places["up"]), tuple(places["down"])


def next_ones(canal, row):
    """Tell the rising tuple of the passings that are let behind a row."""
    places = places_behind(canal, row)
    return tuple([passing for passing in all_passings(canal) if is_let(places, passing)])


def all_passings(canal):
    """Tell the rising list of all passings of the canal."""
    return [
        (way, boat, lock)
        for way in WAYS
        for boat in range(boats_of(canal, way))
        for lock in range(canal[0])
    ]


def is_day(canal, thing):
    """Tell whether thing is a day of the canal."""
    need_canal(canal)
    locks, ups, downs = canal
    # No boat is let twice through a lock, so the length tells that all passed.
    if not has_parts(thing, locks * (ups + downs)) or not is_row(canal, thing):
        return False
    _, bar = walk(canal, thing)
    return bar is None


def need_day(canal, day):
    """Refuse what is no canal, then what is no day of it."""
    if not is_day(canal, day):
        raise NoDay("a day is a row that is let and brings each boat by each lock")


def many_days(canal):
    """Tell how many days the canal has."""
    need_canal(canal)
    locks, ups, downs = canal
    # Boats of unlike ways don't hinder one another: their orders mix freely.
    mixes = comb(locks * (ups + downs), locks * ups)
    return mixes * orders_of_way(locks, ups) * orders_of_way(locks, downs)


def orders_of_way(locks, boats):
    """Tell in how many orders boats of one way can pass all locks."""
    # A passing waits for the one a lock or a boat ahead, so the orders are the
    # standard fillings of a rectangle, which the hook lengths count.
    hooks = 1
    for lock in range(locks):
        for boat in range(boats):
            hooks = hooks * (lock + boat + 1)
    return factorial(locks * boats) // hooks


def least_day(canal):
    """Tell the least day of the canal."""
    need_canal(canal)
    locks, ups, downs = canal
    # The least passing let is always that of the first down boat under way,
    # and of the first up boat once the down boats are through.
    first = [("down", boat, lock) for boat in range(downs) for lock in reversed(range(locks))]
    then = [("up", boat, lock) for boat in range(ups) for lock in range(locks)]
    return tuple(first + then)
