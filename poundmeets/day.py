"""A day that is kept while it goes on."""

from poundmeets.canals import is_day, morning, move, need_boat, need_canal, need_way, next_ones, places_behind
from poundmeets.days import other_way
from poundmeets.errors import Barred, NoDeed
from poundmeets.sights import many_agree
from poundmeets.tables import table_of


class Day:
    """A day of a canal, as far as it has come, with the deeds that can be undone."""

    def __init__(self, canal):
        need_canal(canal)
        self._canal = canal
        # Each deed that stands has brought one passing, so the row tells the deeds, too.
        self._row = ()

    def go(self, way, boat):
        """Let a boat pass its next lock."""
        need_way(way)
        need_boat(self._canal, way, boat)
        let = [part for part in next_ones(self._canal, self._row) if part[:2] == (way, boat)]
        if len(let) == 0:
            raise Barred("no passing of this boat is let")
        self._row = self._row + tuple(let)

    def undo(self):
        """Undo the last deed that stands."""
        if len(self._row) == 0:
            raise NoDeed("no deed stands that can be undone")
        self._row = self._row[:-1]

    def canal(self):
        """Tell the canal."""
        return self._canal

    def row(self):
        """Tell the row of the passings so far."""
        return self._row

    def pounds(self):
        """Tell (ups, downs): the pound of each boat."""
        places = places_behind(self._canal, self._row)
        return tuple(places["up"]), tuple(places["down"])

    def met(self):
        """Tell the rising tuple of (up, down, pound) of all that have met."""
        return tuple(sorted(meetings(self._canal, self._row)))

    def may_come(self):
        """Tell how many tables days have that begin with this row."""
        ups, downs = self.pounds()
        met = {(up, down): pound for up, down, pound in self.met()}
        # As sights: those that have met did so there, the others will between.
        seen = [
            (up, down, met.get((up, down), low), met.get((up, down), high))
            for up, low in enumerate(ups)
            for down, high in enumerate(downs)
        ]
        return many_agree(self._canal, tuple(seen))

    def table(self):
        """Tell the table of a day that is over, else None."""
        if not is_day(self._canal, self._row):
            return None
        return table_of(self._canal, self._row)

    def twin(self):
        """Tell another day with the same row and the same deeds."""
        other = Day(self._canal)
        other._row = self._row
        return other

    def __len__(self):
        return len(self._row)

    def __eq__(self, other):
        return isinstance(other, Day) and self._canal == other._canal and self._row == other._row

    def __repr__(self):
        return f"Day({len(self._row)} passings)"


def meetings(canal, row):
    """Tell the list of (up, down, pound) of all that meet in a row that is let."""
    places = morning(canal)
    found = []
    for passing in row:
        way, boat, _ = passing
        move(places, passing)
        here = places[way][boat]
        # Each passing brings two boats one pound nearer or further, so they are
        # in one pound just once: where one of them comes to the other.
        for beside, pound in enumerate(places[other_way(way)]):
            if pound == here:
                found.append((boat, beside, pound) if way == "up" else (beside, boat, pound))
    return found
