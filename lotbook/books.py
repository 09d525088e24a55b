"""The book: who holds what, what was gained, and who got what."""

from lotbook.checks import divided, refuse_below
from lotbook.errors import BadDay, SameHands
from lotbook.holders import Holder
from lotbook.lots import cost_of, many_of, narrowed, used, widened
from lotbook.sharing import parts


def rows_of(gone, price):
    """A row (day, count, cost, price) for each lot that goes."""
    prices = parts(price, [count for _, count, _ in gone])
    return [(day, count, cost, part) for (day, count, cost), part in zip(gone, prices)]


class Book:
    """A company's shares, lot by lot."""

    # Each deed checks all that it can be refused for before it changes anything.

    def __init__(self):
        self.day = 0
        # By name, in the order in which they first got shares; nobody goes out again.
        self._holders = {}

    def issue(self, day, who, count, paid):
        """Put new shares out to a holder, who pays so many coins for all."""
        self._refuse_early(day)
        refuse_below(1, count)
        refuse_below(0, paid)
        self._take_in(day, who, count, paid)
        self.day = day

    def sell(self, day, giver, taker, count, price):
        """Let shares of the giver go to the taker for a price; the rows."""
        self._refuse_early(day)
        refuse_below(1, count)
        refuse_below(0, price)
        if giver == taker:
            raise SameHands("the giver is the taker")
        rows = self._let_go(day, giver, count, price)
        self._take_in(day, taker, count, price)
        self.day = day
        return rows

    def retire(self, day, who, count, price):
        """Take shares of a holder back for a price; the rows."""
        self._refuse_early(day)
        refuse_below(1, count)
        refuse_below(0, price)
        rows = self._let_go(day, who, count, price)
        self.day = day
        return rows

    def split_by(self, day, number):
        """Make so many shares of each one."""
        self._refuse_early(day)
        refuse_below(2, number)
        for holder in self._holders.values():
            holder.put(day, widened(holder.lots, number), holder.days_by(day) * number)
        self.day = day

    def join_by(self, day, number):
        """Make one share of so many."""
        self._refuse_early(day)
        refuse_below(2, number)
        # All is worked out ahead of the first change: one uneven holder refuses the whole deed.
        joined = [
            (holder, narrowed(holder.lots, number), divided(holder.days_by(day), number))
            for holder in self._holders.values()
        ]
        for holder, lots, days in joined:
            holder.put(day, lots, days)
        self.day = day

    def pay(self, day, coins):
        """Share coins out by share-days; a tuple (name, part) for each holder."""
        self._refuse_early(day)
        refuse_below(0, coins)
        shared = parts(coins, [holder.days_by(day) for holder in self._holders.values()])
        told = list(zip(self.names(), shared))
        for name, part in told:
            holder = self._holders[name]
            holder.got += part
            holder.put(day, holder.lots, 0)
        self.day = day
        return told

    def names(self):
        """The names of all holders, in order."""
        return list(self._holders)

    def shares(self):
        """How many shares all hold together."""
        return sum([many_of(holder.lots) for holder in self._holders.values()])

    def shares_of(self, who):
        """How many shares one holds."""
        return many_of(self._holder(who).lots)

    def gain_of(self, who):
        """What one gained by selling and by what was retired."""
        return self._holder(who).gain

    def got_of(self, who):
        """How many coins one was paid."""
        return self._holder(who).got

    def days_of(self, who):
        """One's share-days, counted up to the day of the last deed that was done."""
        return self._holder(who).days_by(self.day)

    def lots_of(self, who):
        """One's lots, in order."""
        return list(self._holder(who).lots)

    def _refuse_early(self, day):
        if day < self.day:
            raise BadDay("the day is too early")

    def _holder(self, who):
        if who in self._holders:
            return self._holders[who]
        # A stranger is as one who has nothing, but does not stand in the book for being asked about.
        return Holder()

    def _take_in(self, day, who, count, cost):
        holder = self._holder(who)
        holder.put(day, [*holder.lots, (day, count, cost)], holder.days_by(day))
        self._holders[who] = holder

    def _let_go(self, day, who, count, price):
        holder = self._holder(who)
        gone, left = used(holder.lots, count)
        holder.put(day, left, holder.days_by(day))
        holder.gain += price - cost_of(gone)
        return rows_of(gone, price)
