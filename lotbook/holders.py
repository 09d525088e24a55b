"""What a book keeps of one holder."""

from lotbook.lots import many_of


class Holder:
    """One holder's lots, gain, coins got and share-days."""

    def __init__(self):
        self.lots = []
        self.gain = 0
        self.got = 0
        self._days = 0
        self._counted = 0

    def days_by(self, day):
        """The share-days, counted up to a day."""
        # Worked out without being kept: a deed that is refused has nothing to take back.
        return self._days + many_of(self.lots) * (day - self._counted)

    def put(self, day, lots, days):
        """Hold these lots from a day on, with these share-days up to that day."""
        self.lots = lots
        self._days = days
        self._counted = day
