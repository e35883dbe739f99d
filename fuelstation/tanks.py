"""A tank under the ground: what is in it, what its book says, and where its fuel went."""


class Tank:
    """One tank. All volumes are whole tenths of a litre."""

    def __init__(self, kind, most):
        self.kind = kind
        self.most = most
        self.fuel = 0
        self.water = 0
        self.spoiled = False
        self.leaking = 0
        self.seeping = 0
        self.book = 0
        self.missed = []
        self.shown_by_hour = {}
        self.delivered = 0
        self.poured = 0
        self.leaked = 0
        self.drained = 0

    def usable(self, low):
        """The fuel above what is to stay in any tank."""
        if self.spoiled:
            return 0
        return max(0, self.fuel - low)

    def room(self, high):
        """How much may still be delivered, if the tank may be full to so many hundredths."""
        return max(0, self.most * high // 100 - self.fuel - self.water)

    def take_in(self, kind, volume):
        """Fill a delivery in."""
        self.fuel += volume
        self.delivered += volume
        self.book += volume
        if kind != self.kind:
            self.spoiled = True

    def give_out(self, came, booked, hour):
        """Let out what really comes; the book only learns what a nozzle shows."""
        self.fuel -= came
        self.poured += came
        self.book -= booked
        self.shown_by_hour[hour] = self.shown_by_hour.get(hour, 0) + booked

    def shown_since(self, hour):
        """What was shown of it, as off the book, in that hour and later."""
        return sum([shown for at, shown in self.shown_by_hour.items() if at >= hour])

    def pass_hour(self):
        """Leak and seep for an hour."""
        # The leak comes first: the water may take the place that it leaves.
        lost = min(self.leaking, self.fuel)
        self.fuel -= lost
        self.leaked += lost
        self.water += min(self.seeping, self.most - self.fuel - self.water)

    def dip(self):
        """Set the book right, and tell what was missing until now."""
        missing = self.book - self.fuel
        self.book = self.fuel
        self.missed.append(missing)
        return missing

    def pump_out(self):
        """Take the water out, and tell how much it was."""
        water = self.water
        self.water = 0
        return water

    def drain(self):
        """Empty it, so that nothing spoils it any more, and tell how much fuel and water it had."""
        fuel = self.fuel
        self.fuel = 0
        self.drained += fuel
        self.spoiled = False
        self.book = 0
        return [fuel, self.pump_out()]
