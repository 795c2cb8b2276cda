"""Voyages: a ship on a trip, for which the way ahead is chosen anew whenever something is heard."""

from highestsky.errors import Ended, NoWay
from highestsky.lots import check_can_be
from highestsky.promises import check_trip
from highestsky.routes import best_way, check_measure
from highestsky.trips import leads_of, start_of


class Voyage:
    """A voyage, with a lot and a whole way of its own."""

    def __init__(self, lot, trip, *, by="greatest"):
        check_measure(by)
        check_trip(lot, trip)
        check_can_be(lot)
        self._leads = leads_of(trip)
        if start_of(trip) not in self._leads:
            raise NoWay()
        self.trip = trip
        self.by = by
        self._lot = lot.twin()
        self._way = [start_of(trip)]
        self._at = 0
        self._promise = 0
        self._choose()

    @property
    def promise(self):
        """The roughness of the whole way in the highest sky of the present lot."""
        return self._promise

    @property
    def position(self):
        """The present place."""
        return self._way[self._at]

    def way(self):
        """The whole way: the places done, and the planned ones."""
        return list(self._way)

    def done(self):
        """The list of the places up to the present position."""
        return self._way[:self._at + 1]

    def lot(self):
        """A twin of the lot of the voyage."""
        return self._lot.twin()

    def hear(self, *sayings):
        """Puts sayings to the lot, and chooses the planned places anew."""
        other = self._lot.twin()
        other.put(*sayings)
        check_can_be(other)
        self._lot = other
        self._choose()

    def sail(self, *sayings):
        """Hears sayings, and moves to the next place of the whole way."""
        if self.position[0] == self.trip.last:
            raise Ended()
        self.hear(*sayings)
        self._at += 1

    def _choose(self):
        """Chooses the least rough whole way among those that begin with the places done."""
        promise, way = best_way(self._leads, self._lot.sky.heights(), self.by, self.done())
        self._promise = promise
        self._way = way

    def twin(self):
        """An independent voyage in the same state."""
        other = Voyage(self._lot, self.trip, by=self.by)
        other._way = list(self._way)
        other._at = self._at
        other._promise = self._promise
        return other

    def __repr__(self):
        return f"Voyage(hour {self._way[self._at][0]})"
