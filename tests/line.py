"""Helps the tests to write lines of calls and to read what is answered."""

from fuelstation.station import answers

FAR = 4294967295

NUMBERS = {
    "begin": 0, "tank": 1, "nozzle": 2, "price": 3, "meter": 4, "drop": 5, "lift": 6, "pour": 7,
    "hang": 8, "pay": 9, "gone": 10, "leak": 11, "seep": 12, "hours": 13, "dip": 14, "losses": 15,
    "suspects": 16, "drain": 17, "dry": 18, "room": 19, "usable": 20, "could": 21, "lasts": 22, "order": 23,
    "open": 24, "sale": 25, "sold": 26, "money": 27, "look": 28, "sums": 29, "state": 30,
}


def call(text):
    """One call's numbers, of a text like "drop 0 1 500"."""
    words = text.split()
    return [NUMBERS[words[0]]] + [int(word) for word in words[1:]]


def calls(text):
    """The calls of a text, where ";" or a row's end parts them."""
    return [call(piece) for piece in text.replace("\n", ";").split(";") if piece.strip()]


def flat(rows):
    return [number for row in rows for number in row]


def parted(told):
    """The answers, each a list of its own, of what the function gave back."""
    found = []
    at = 0
    while at < len(told):
        end = at + 1 + told[at]
        assert told[at] >= 1 and end <= len(told), told
        found.append(told[at + 1:end])
        at = end
    return found


def told(rows):
    """The answers to all these calls."""
    line = flat(rows)
    assert len(rows) <= 256 and len(line) <= 1024, "no such line is handed in"
    found = parted(answers(line))
    assert len(found) == len(rows), (rows, found)
    return found


def run(text):
    """The answers to all calls of the text."""
    return told(calls(text))


def last(text):
    """The answer to the last call of the text."""
    return run(text)[-1]


def station(low=0, high=100, fuel=5000, price=100, rest=""):
    """The beginning of a line: a tank 0 of kind 0 with some fuel, and a nozzle 0 of it with a price."""
    return f"begin {low} {high}; tank 0 100000; nozzle 0 0 0; price 0 {price}; drop 0 0 {fuel}; {rest};"


def mixed(first, other, part, low=0, meter=0):
    """The beginning of a line: tanks 0 and 1 with so much fuel, and a nozzle 0 that mixes them."""
    fills = "".join(f"drop {t} {t} {n};" for t, n in enumerate((first, other)) if n > 0)
    return f"begin {low} 100; tank 0 100000; tank 1 100000; nozzle 0 1 {part}; price 0 10; meter 0 {meter}; {fills}"
