"""The accounts of sellers."""

from nightpaper.errors import TooLate, TooMany, Unknown
from nightpaper.words import money_text


class Ledger:
    """What was sent to sellers, came back and was paid: sums alone, in which no order of telling is kept."""

    def __init__(self, price=2, free=13, within=3):
        self.price = price
        self.free = free
        self.within = within
        self.prices = {}
        # Each seller stands in all three of these from its first sending on.
        self.sent = {}
        self.came = {}
        self.paid = {}

    def ask_seller(self, seller):
        """Unknown where nothing was ever sent to the seller."""
        if seller not in self.sent:
            raise Unknown(seller)

    def send(self, seller, night, copies):
        """Copies are sent to a seller for a night."""
        if seller not in self.sent:
            self.sent[seller] = {}
            self.came[seller] = {}
            self.paid[seller] = 0
        self.sent[seller][night] = self.sent[seller].get(night, 0) + copies

    def back(self, seller, night, told, copies):
        """Copies of a night come back, told in another one; Unknown, TooLate or TooMany."""
        self.ask_seller(seller)
        late = told - night - self.within
        if late > 0:
            raise TooLate(late)
        out = self.still_out(seller, night)
        if copies > out:
            raise TooMany(copies, out)
        self.came[seller][night] = self.came[seller].get(night, 0) + copies

    def pay(self, seller, pence):
        """A seller pays money; Unknown."""
        self.ask_seller(seller)
        self.paid[seller] += pence

    def price_from(self, night, price):
        """The price from a night on, in the place of one told from that very night."""
        self.prices[night] = price

    def still_out(self, seller, night):
        """How many copies of a night were sent to a seller and didn't come back."""
        return self.sent[seller].get(night, 0) - self.came[seller].get(night, 0)

    def price_at(self, night):
        """The price told from the greatest night on that isn't above this one."""
        first = max([other for other in self.prices if other <= night], default=None)
        return self.price if first is None else self.prices[first]

    def cost(self, seller, night):
        """What the copies of a night cost that are out."""
        copies = self.still_out(seller, night)
        return (copies - copies // self.free) * self.price_at(night)

    def sellers(self):
        """The sellers, sorted."""
        return sorted(self.sent)

    def account(self, seller):
        """For each night for which copies were sent (night, sent, back, cost), by nights; Unknown."""
        self.ask_seller(seller)
        sent = self.sent[seller]
        came = self.came[seller]
        return [(night, sent[night], came.get(night, 0), self.cost(seller, night)) for night in sorted(sent)]

    def owes(self, seller):
        """What all nights cost, less what was paid; Unknown."""
        return sum([cost for night, sent, came, cost in self.account(seller)]) - self.paid[seller]

    def statement(self, seller):
        """The account's rows, what was paid and what is owed, as a text; Unknown."""
        rows = [
            f"night {night} sent {sent} back {came} {money_text(cost)}"
            for night, sent, came, cost in self.account(seller)
        ]
        rows.append(f"paid {money_text(self.paid[seller])}")
        rows.append(f"owes {money_text(self.owes(seller))}")
        return "\n".join(rows)

    def __eq__(self, other):
        if not isinstance(other, Ledger):
            return False
        if self.price != other.price or self.free != other.free or self.within != other.within:
            return False
        if self.sent != other.sent or self.came != other.came:
            return False
        return self.paid == other.paid and self.prices == other.prices

    def __len__(self):
        return len(self.sent)

    def __str__(self):
        return "\n".join([f"{seller} owes {money_text(self.owes(seller))}" for seller in self.sellers()])
