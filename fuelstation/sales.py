"""A sale: what a nozzle had shown when it was hung up, and whether it was paid."""

UNPAID = 0
PAID = 1
DRIVEN_OFF = 2


class Sale:
    """One sale, not settled at first. It knows its nozzle by its number."""

    def __init__(self, nozzle, volume, due, hour):
        self.nozzle = nozzle
        self.volume = volume
        self.due = due
        self.hour = hour
        self.status = UNPAID
