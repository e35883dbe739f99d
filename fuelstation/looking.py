"""The calls that only look: what each of them answers. None of them changes anything."""

from fuelstation.refusals import CANNOT_BE, THERE_IS_NONE
from fuelstation.sales import DRIVEN_OFF, PAID, UNPAID

# Of what was shown, this hour and the 23 before tell how long a tank will last.
DAY = 24

# So many dips must have missed fuel, one behind another, before a tank is suspected.
SUSPICIOUS_DIPS = 3


def counted(found):
    """How many were found, then these."""
    return [len(found)] + found


def losses(station, t):
    if t >= len(station.tanks):
        return [THERE_IS_NONE]
    missed = station.tanks[t].missed
    return [len(missed), sum(missed)]


def is_suspect(tank, n):
    """Whether the last dips each missed more than n."""
    newest = tank.missed[-SUSPICIOUS_DIPS:]
    return len(newest) == SUSPICIOUS_DIPS and min(newest) > n


def suspects(station, n):
    return counted([t for t, tank in enumerate(station.tanks) if is_suspect(tank, n)])


def room_of(station, t):
    if t >= len(station.tanks):
        return [THERE_IS_NONE]
    return [station.tanks[t].room(station.high)]


def usable_of(station, t):
    if t >= len(station.tanks):
        return [THERE_IS_NONE]
    return [station.tanks[t].usable(station.low)]


def could(station, z):
    if z >= len(station.nozzles):
        return [THERE_IS_NONE]
    return [station.can_pour(station.nozzles[z], 1000)]


def shown_lately(station, tank):
    """What was shown of the tank in this hour and the 23 before."""
    return tank.shown_since(station.hour - DAY + 1)


def hours_left(station, tank):
    """For how many hours the usable would last, where something was shown lately."""
    return tank.usable(station.low) * DAY // shown_lately(station, tank)


def lasts(station, t):
    if t >= len(station.tanks):
        return [THERE_IS_NONE]
    tank = station.tanks[t]
    if shown_lately(station, tank) == 0:
        return [CANNOT_BE]
    return [hours_left(station, tank)]


def runs_out(station, tank, n):
    """Whether the tank would last fewer than n hours; of one that nobody draws from it can't be told."""
    return shown_lately(station, tank) > 0 and hours_left(station, tank) < n


def order(station, n):
    return counted([t for t, tank in enumerate(station.tanks) if runs_out(station, tank, n)])


def unpaid_sales(station):
    return counted([s for s, sale in enumerate(station.sales) if sale.status == UNPAID])


def sale_of(station, s):
    if s >= len(station.sales):
        return [THERE_IS_NONE]
    sale = station.sales[s]
    return [sale.status, sale.nozzle, sale.volume, sale.due, sale.hour]


def sold_by(station, z):
    """What the nozzle showed in all its sales."""
    return sum([sale.volume for sale in station.sales if sale.nozzle == z])


def sold(station):
    return counted([sold_by(station, z) for z in range(len(station.nozzles))])


def due_of(station, status):
    """What all sales that stand so come to."""
    return sum([sale.due for sale in station.sales if sale.status == status])


def money(station):
    return [due_of(station, PAID), due_of(station, UNPAID), due_of(station, DRIVEN_OFF)]


def look(station, t):
    if t >= len(station.tanks):
        return [THERE_IS_NONE]
    tank = station.tanks[t]
    spoiled = 1 if tank.spoiled else 0
    lifted = 1 if station.is_drawn_from(t) else 0
    return [tank.kind, tank.most, spoiled, lifted, tank.book]


def sums(station):
    came = sum([tank.delivered for tank in station.tanks])
    there = sum([tank.fuel for tank in station.tanks])
    poured = sum([tank.poured for tank in station.tanks])
    leaked = sum([tank.leaked for tank in station.tanks])
    drained = sum([tank.drained for tank in station.tanks])
    return [0, came, there, poured, leaked, drained]


def state(station):
    return [0, station.hour, len(station.tanks), len(station.nozzles), len(station.sales)]


OF_NONE = {24: unpaid_sales, 26: sold, 27: money, 29: sums, 30: state}

OF_ONE = {
    15: losses, 16: suspects, 19: room_of, 20: usable_of, 21: could, 22: lasts, 23: order, 25: sale_of, 28: look,
}


def seen(station, number, given):
    """What one call that only looks answers, as a list."""
    if number in OF_NONE:
        return OF_NONE[number](station)
    return OF_ONE[number](station, given[0])
