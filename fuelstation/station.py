"""The filling station: the calls that change it, and what a line of calls answers."""

from fuelstation.looking import seen
from fuelstation.nozzles import Nozzle
from fuelstation.refusals import (
    ALREADY, CANNOT_BE, HAS_NONE, NO_ROOM, NOT_BEGUN, NOT_ENOUGH, NOT_LIFTED, NOT_NOW, OUT_OF_RANGE, THERE_IS_NONE,
)
from fuelstation.sales import DRIVEN_OFF, PAID, UNPAID, Sale
from fuelstation.tanks import Tank

MOST_TANKS = 6
MOST_NOZZLES = 8
MOST_SALES = 60
MOST_KIND = 5


class Station:
    """All that a line of calls works on."""

    def __init__(self):
        self.start(0, 0)
        self.begun = False

    def start(self, low, high):
        """Begin anew, with nothing there."""
        self.begun = True
        self.low = low
        self.high = high
        self.hour = 0
        self.tanks = []
        self.nozzles = []
        self.sales = []

    def drawn_tanks(self, nozzle):
        """The nozzle's tanks, the first one first."""
        return (self.tanks[nozzle.first], self.tanks[nozzle.other])

    def can_pour(self, nozzle, asked):
        """How much the nozzle can pour of what is asked for."""
        usable = [tank.usable(self.low) for tank in self.drawn_tanks(nozzle)]
        return nozzle.greatest(asked, usable)

    def is_drawn_from(self, t):
        """Whether a nozzle that draws from the tank is lifted."""
        return any([nozzle.lifted for nozzle in self.nozzles if t == nozzle.first or t == nozzle.other])


def begin(station, low, high):
    if low > 10000 or high < 50 or high > 100:
        return [OUT_OF_RANGE]
    station.start(low, high)
    return [0]


def add_tank(station, kind, most):
    if kind > MOST_KIND or most < 1000 or most > 1000000:
        return [OUT_OF_RANGE]
    if len(station.tanks) == MOST_TANKS:
        return [NO_ROOM]
    station.tanks.append(Tank(kind, most))
    return [len(station.tanks) - 1]


def part_fits(first, other, part):
    """Whether the part is one for a nozzle of these tanks: a mixing one has some of both."""
    if first == other:
        return part == 0
    return 1 <= part and part <= 99


def add_nozzle(station, first, other, part):
    if max(first, other) >= len(station.tanks):
        return [THERE_IS_NONE]
    if not part_fits(first, other, part):
        return [OUT_OF_RANGE]
    if len(station.nozzles) == MOST_NOZZLES:
        return [NO_ROOM]
    station.nozzles.append(Nozzle(first, other, part))
    return [len(station.nozzles) - 1]


def set_price(station, z, price):
    if z >= len(station.nozzles):
        return [THERE_IS_NONE]
    if price < 1 or price > 10000:
        return [OUT_OF_RANGE]
    nozzle = station.nozzles[z]
    before = nozzle.price
    nozzle.price = price
    return [before]


def set_meter(station, z, excess):
    if z >= len(station.nozzles):
        return [THERE_IS_NONE]
    if excess < -50 or excess > 50:
        return [OUT_OF_RANGE]
    nozzle = station.nozzles[z]
    if nozzle.lifted:
        return [NOT_NOW]
    nozzle.excess = excess
    return [0]


def drop(station, t, kind, volume):
    if t >= len(station.tanks):
        return [THERE_IS_NONE]
    if kind > MOST_KIND or volume < 1 or volume > 200000:
        return [OUT_OF_RANGE]
    tank = station.tanks[t]
    if volume > tank.room(station.high):
        return [NO_ROOM]
    tank.take_in(kind, volume)
    return [tank.fuel]


def lift(station, z, limit):
    if z >= len(station.nozzles):
        return [THERE_IS_NONE]
    if limit > 1000000:
        return [OUT_OF_RANGE]
    nozzle = station.nozzles[z]
    if nozzle.lifted:
        return [NOT_NOW]
    if nozzle.price == 0:
        return [HAS_NONE]
    if any([tank.spoiled for tank in station.drawn_tanks(nozzle)]):
        return [CANNOT_BE]
    if station.can_pour(nozzle, 1) == 0:
        return [NOT_ENOUGH]
    nozzle.lift(limit)
    return [nozzle.lifted_price]


def pour(station, z, asked):
    if z >= len(station.nozzles):
        return [THERE_IS_NONE]
    if asked < 1 or asked > 1000:
        return [OUT_OF_RANGE]
    nozzle = station.nozzles[z]
    if not nozzle.lifted:
        return [NOT_LIFTED]
    poured = station.can_pour(nozzle, asked)
    for tank, came, booked in zip(station.drawn_tanks(nozzle), nozzle.coming(poured), nozzle.booking(poured)):
        tank.give_out(came, booked, station.hour)
    nozzle.shown += poured
    return [poured]


def hang(station, z):
    if z >= len(station.nozzles):
        return [THERE_IS_NONE]
    nozzle = station.nozzles[z]
    if not nozzle.lifted:
        return [NOT_LIFTED]
    shown = nozzle.shown
    due = nozzle.amount()
    if shown > 0:
        if len(station.sales) == MOST_SALES:
            return [NO_ROOM]
        station.sales.append(Sale(z, shown, due, station.hour))
    nozzle.hang()
    return [due, shown, len(station.sales)]


def settle(station, s, status):
    """End a sale in one way or the other."""
    if s >= len(station.sales):
        return [THERE_IS_NONE]
    sale = station.sales[s]
    if sale.status != UNPAID:
        return [ALREADY]
    sale.status = status
    return [sale.due]


def pay(station, s):
    return settle(station, s, PAID)


def gone(station, s):
    return settle(station, s, DRIVEN_OFF)


def set_leak(station, t, volume):
    if t >= len(station.tanks):
        return [THERE_IS_NONE]
    if volume > 100:
        return [OUT_OF_RANGE]
    tank = station.tanks[t]
    before = tank.leaking
    tank.leaking = volume
    return [before]


def set_seep(station, t, volume):
    if t >= len(station.tanks):
        return [THERE_IS_NONE]
    if volume > 100:
        return [OUT_OF_RANGE]
    tank = station.tanks[t]
    before = tank.seeping
    tank.seeping = volume
    return [before]


def hours(station, n):
    if n < 1 or n > 500:
        return [OUT_OF_RANGE]
    for tank in station.tanks:
        for passed in range(n):
            tank.pass_hour()
    station.hour += n
    return [station.hour]


def dip(station, t):
    if t >= len(station.tanks):
        return [THERE_IS_NONE]
    tank = station.tanks[t]
    missing = tank.dip()
    return [tank.fuel, tank.water, missing]


def drain(station, t):
    if t >= len(station.tanks):
        return [THERE_IS_NONE]
    if station.is_drawn_from(t):
        return [NOT_NOW]
    return station.tanks[t].drain()


def dry(station, t):
    if t >= len(station.tanks):
        return [THERE_IS_NONE]
    tank = station.tanks[t]
    if tank.water == 0:
        return [HAS_NONE]
    return [tank.pump_out()]


BEGIN = 0

# How many numbers follow each call's own: a line is read by it even where the call is refused.
ARGUMENTS = (2, 2, 3, 2, 2, 3, 2, 2, 1, 1, 1, 2, 2, 1, 1, 1, 1, 1, 1, 1, 1, 1, 1, 1, 0, 1, 0, 0, 1, 0, 0)

OF_ONE = {8: hang, 9: pay, 10: gone, 13: hours, 14: dip, 17: drain, 18: dry}

OF_TWO = {0: begin, 1: add_tank, 3: set_price, 4: set_meter, 6: lift, 7: pour, 11: set_leak, 12: set_seep}

OF_THREE = {2: add_nozzle, 5: drop}


def answer_of(station, number, given):
    """What one call answers, as a list."""
    if not station.begun and number != BEGIN:
        return [NOT_BEGUN]
    if number in OF_ONE:
        return OF_ONE[number](station, given[0])
    if number in OF_TWO:
        return OF_TWO[number](station, given[0], given[1])
    if number in OF_THREE:
        return OF_THREE[number](station, given[0], given[1], given[2])
    return seen(station, number, given)


def answers(calls):
    """What a line of calls on a new station answers, each answer behind its length."""
    station = Station()
    told = []
    at = 0
    while at < len(calls):
        number = calls[at]
        end = at + 1 + ARGUMENTS[number]
        answer = answer_of(station, number, calls[at + 1:end])
        told.append(len(answer))
        told.extend(answer)
        at = end
    return told
