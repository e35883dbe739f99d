"""A nozzle: what it shows, what really comes of its tanks, and how much it can pour."""


def amount_of(price, shown):
    """What is to be paid: to the nearest, of two the greater, as the price is that of ten tenths."""
    return (price * shown + 5) // 10


def parted(volume, part):
    """A volume as (the first tank's part, the other tank's part)."""
    other = volume * part // 100
    return (volume - other, other)


def growth(before, after):
    """How much more each part is after than before."""
    return (after[0] - before[0], after[1] - before[1])


class Nozzle:
    """One nozzle. It knows its tanks by their numbers; both are one where it doesn't mix."""

    def __init__(self, first, other, part):
        self.first = first
        self.other = other
        self.part = part
        self.price = 0
        self.excess = 0
        self.lifted = False
        self.lifted_price = 0
        self.limit = 0
        self.shown = 0

    def lift(self, limit):
        """Begin to serve a customer, who keeps the price of now."""
        self.lifted = True
        self.lifted_price = self.price
        self.limit = limit

    def hang(self):
        """Be hung up: nothing is shown, and no limit holds, until it is lifted again."""
        self.lifted = False
        self.limit = 0
        self.shown = 0

    def amount(self):
        """What is to be paid for all that is shown."""
        return amount_of(self.lifted_price, self.shown)

    def came(self, shown):
        """What really came of each tank where so much is shown."""
        return parted(shown * (1000 + self.excess) // 1000, self.part)

    def coming(self, more):
        """What really comes of each tank by showing so much more."""
        # Both sides count from the lifting on, so that roundings don't add up over small pieces.
        return growth(self.came(self.shown), self.came(self.shown + more))

    def booking(self, more):
        """What goes off each tank's book by showing so much more."""
        return growth(parted(self.shown, self.part), parted(self.shown + more, self.part))

    def within_limit(self, more):
        """Whether so much more may be shown for what the customer has paid ahead."""
        return self.limit == 0 or amount_of(self.lifted_price, self.shown + more) <= self.limit

    def can_show(self, more, usable):
        """Whether so much more can be shown, given what is usable of each tank."""
        coming = self.coming(more)
        return coming[0] <= usable[0] and coming[1] <= usable[1] and self.within_limit(more)

    def greatest(self, asked, usable):
        """How much more can be shown, up to what is asked for."""
        # A tank at its end stops the nozzle, even where that tank's part would round down to nothing.
        if usable[0] == 0 or usable[1] == 0:
            return 0
        sure = 0
        bound = asked
        # Each part and the amount never fall as more is shown, so halving finds the greatest.
        while sure < bound:
            middle = (sure + bound + 1) // 2
            if self.can_show(middle, usable):
                sure = middle
            else:
                bound = middle - 1
        return sure
