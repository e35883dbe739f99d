"""A tank under the ground: what is in it, and what its book says."""


class Tank:
    """One tank. All volumes are whole tenths of a litre."""

    def __init__(self, kind, most):
        self.kind = kind
        self.most = most
        self.fuel = 0
        self.water = 0
        self.spoiled = False
        self.leaking = 0
        self.seeping = 0
        self.book = 0
        self.missed = []

    def usable(self, low):
        """The fuel above what is to stay in any tank."""
        if self.spoiled:
            return 0
        return max(0, self.fuel - low)

    def room(self, high):
        """How much may still be delivered, if the tank may be full to so many hundredths."""
        return max(0, self.most * high // 100 - self.fuel - self.water)

    def take_in(self, kind, volume):
        """Fill a delivery in."""
        self.fuel += volume
        self.book += volume
        if kind != self.kind:
            self.spoiled = True

    def give_out(self, came, booked):
        """Let out what really comes; the book only learns what a nozzle shows."""
        self.fuel -= came
        self.book -= booked

    def pass_hour(self):
        """Leak and seep for an hour."""
        # The leak comes first: the water may take the place that it leaves.
        self.fuel -= min(self.leaking, self.fuel)
        self.water += min(self.seeping, self.most - self.fuel - self.water)

    def dip(self):
        """Set the book right, and tell what was missing until now."""
        missing = self.book - self.fuel
        self.book = self.fuel
        self.missed.append(missing)
        return missing
