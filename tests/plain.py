"""What the document says, worked out again in the plainest way, for the tests."""

from functools import lru_cache
from itertools import product
from random import Random

# Canals whose days are few enough to go through, edges among them.
SMALL = (
    (1, 0, 0), (1, 0, 1), (1, 1, 0), (1, 1, 1), (1, 4, 4), (1, 4, 0), (1, 0, 4), (1, 2, 3),
    (2, 0, 0), (2, 1, 1), (2, 2, 1), (2, 1, 2), (2, 2, 2), (2, 3, 2), (2, 0, 3), (2, 3, 0),
    (3, 1, 1), (3, 2, 1), (3, 1, 2), (3, 0, 2), (4, 1, 1), (4, 2, 1), (5, 1, 1), (5, 0, 0),
    (5, 2, 0), (5, 0, 2), (5, 1, 0), (4, 3, 0),
)
GREATEST = (5, 4, 4)


def passing_of(canal, way, boat, done):
    """The next passing of a boat that has done so many."""
    return (way, boat, done if way == "up" else canal[0] - 1 - done)


def start(canal):
    """How many passings each boat has done in the morning: (ups, downs)."""
    return ((0,) * canal[1], (0,) * canal[2])


def choices(canal, state):
    """All (passing, state behind it) that are let in a state."""
    told = []
    for side, way in ((1, "down"), (0, "up")):
        for boat, done in enumerate(state[side]):
            if done < canal[0] and (boat == 0 or state[side][boat - 1] > done):
                line = state[side][:boat] + (done + 1,) + state[side][boat + 1:]
                after = (line, state[1]) if side == 0 else (state[0], line)
                told.append((passing_of(canal, way, boat, done), after))
    return told


def pounds_of(canal, state):
    """The pounds of all boats."""
    return state[0], tuple(canal[0] - done for done in state[1])


def state_behind(canal, row):
    """The state behind a row, None where one of its passings isn't let."""
    state = start(canal)
    for passing in row:
        state = dict(choices(canal, state)).get(passing)
        if state is None:
            return None
    return state


@lru_cache(maxsize=None)
def all_days(canal):
    """All days, rising."""
    days = []
    rows = [((), start(canal))]
    for _ in range(canal[0] * (canal[1] + canal[2])):
        rows = [
            (row + (passing,), after)
            for row, state in rows
            for passing, after in choices(canal, state)
        ]
    days = [row for row, _ in rows]
    return tuple(sorted(days))


def met_in(canal, row):
    """Where each two have been at once for the first time: (up, down) to pound."""
    met = {}
    state = start(canal)
    for passing in ((),) + row:
        if passing:
            state = dict(choices(canal, state))[passing]
        ups, downs = pounds_of(canal, state)
        for up, down in product(range(canal[1]), range(canal[2])):
            if ups[up] == downs[down]:
                met.setdefault((up, down), ups[up])
    return met


def table_behind(canal, day):
    """The table of a day."""
    met = met_in(canal, day)
    return tuple(tuple(met[up, down] for down in range(canal[2])) for up in range(canal[1]))


@lru_cache(maxsize=None)
def days_by_table(canal):
    """All days of a small canal, sorted by their tables."""
    told = {}
    for day in all_days(canal):
        told.setdefault(table_behind(canal, day), []).append(day)
    return told


def all_tables(canal):
    """All tuples that the document calls tables."""
    locks, ups, downs = canal
    told = []
    for flat in product(range(locks + 1), repeat=ups * downs):
        table = tuple(flat[up * downs:(up + 1) * downs] for up in range(ups))
        if all(
            (up == 0 or table[up][down] <= table[up - 1][down])
            and (down == 0 or table[up][down] >= table[up][down - 1])
            for up in range(ups)
            for down in range(downs)
        ):
            told.append(table)
    return told


def completions(canal, table=None):
    """A function of a state: in how many ways the day can go on (to that table)."""

    @lru_cache(maxsize=None)
    def count(state):
        told = 0
        found = choices(canal, state)
        for _, after in found:
            if table is None or meets_as_told(canal, table, state, after):
                told += count(after)
        return told if found else 1

    return count


def meets_as_told(canal, table, state, after):
    """Whether all that meet by one passing meet where the table has it."""
    ups, downs = pounds_of(canal, after)
    before_ups, before_downs = pounds_of(canal, state)
    for up, down in product(range(canal[1]), range(canal[2])):
        new = ups[up] == downs[down] and before_ups[up] != before_downs[down]
        if new and table[up][down] != ups[up]:
            return False
    return True


def least_with(canal, table=None):
    """The least day (that has the table), by trying the least passing each time."""
    count = completions(canal, table)
    state = start(canal)
    day = ()
    while choices(canal, state):
        for passing, after in sorted(choices(canal, state)):
            fits = table is None or meets_as_told(canal, table, state, after)
            if fits and count(after):
                day, state = day + (passing,), after
                break
    return day


def some_days(canal, many, seed):
    """Some days of a canal, the same ones each time."""
    chance = Random(seed)
    told = []
    for _ in range(many):
        state, day = start(canal), ()
        favourite = chance.choice(("up", "down", "none"))
        while choices(canal, state):
            found = choices(canal, state)
            liked = [one for one in found if one[0][0] == favourite and chance.random() < 0.6]
            passing, state = chance.choice(liked or found)
            day += (passing,)
        told.append(day)
    return told


def all_lines(canal):
    """All lines that never fall, one pound for each down boat, rising."""
    found = product(range(canal[0] + 1), repeat=canal[2])
    return [line for line in found if list(line) == sorted(line)]


def rising_tables(canal, fits=None):
    """Each table, rising, by lines; only those whose lines fit, where that is asked."""
    lines = all_lines(canal)
    below = {
        line: [low for low in lines if all(map(int.__le__, low, line))] for line in lines
    }

    def onward(table):
        up = len(table)
        if up == canal[1]:
            yield table
            return
        for line in below[table[-1]] if table else lines:
            if fits is None or fits(up, line):
                yield from onward(table + (line,))

    return onward(())


def agrees(table, sights):
    """Whether the table has what was seen."""
    return all(low <= table[up][down] <= high for up, down, low, high in sights)


def some_sights(canal, chance, many):
    """So many sights, by chance."""
    told = []
    for _ in range(many if canal[1] and canal[2] else 0):
        low, high = sorted((chance.randint(0, canal[0]), chance.randint(0, canal[0])))
        told.append((chance.randrange(canal[1]), chance.randrange(canal[2]), low, high))
    return tuple(told)


def some_tables(canal, many, seed):
    """Some tables of a canal, the same ones each time."""
    return [table_behind(canal, day) for day in some_days(canal, many, seed)]


def book_at(canal, table, lock):
    """The book of a lock: before each up boat stand those down boats met no higher."""
    told = ["down"] * (canal[1] + canal[2])
    for up, line in enumerate(table):
        told[up + len([pound for pound in line if pound <= lock])] = "up"
    return tuple(told)


def differ(one, other):
    """By how much the numbers of two tables differ, all together."""
    flat = (sum(table, ()) for table in (one, other))
    return sum(abs(pound - beside) for pound, beside in zip(*flat))


def lock_through(day, gates):
    """How often each lock is turned on a day, and how all stand in the evening."""
    stand, turned = list(gates), [0] * len(gates)
    for way, _, lock in day:
        wanted = {"up": "low", "down": "high"}[way]
        if stand[lock] != wanted:
            turned[lock] += 1
        stand[lock] = {"up": "high", "down": "low"}[way]
    return tuple(turned), tuple(stand)
