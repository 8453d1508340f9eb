"""Writes calls as the interface asks for them, and reads what it gives back."""

from alldone.machines import answers

TOP = 4294967295


def start(thing, me, machines, tasks=()):
    return [0, thing, me, machines, len(tasks)] + list(tasks)


def take(thing):
    return [1, thing]


def give(thing, to, task):
    return [2, thing, to, task]


def finish(thing):
    return [3, thing]


def say(thing, to):
    return [4, thing, to]


def heard(thing, said):
    return [5, thing, len(said)] + list(said)


def wave(thing):
    return [6, thing]


def done(thing):
    return [7, thing]


def state(thing):
    return [8, thing]


def view(thing, me, machines):
    """Calls that change nothing and show all that a machine shows."""
    return [state(thing), done(thing)] + [say(thing, to) for to in range(machines) if to != me]


def split(answered):
    """The list that is given back, as one list for each call."""
    parts = []
    place = 0
    while place < len(answered):
        size = answered[place]
        part = answered[place + 1:place + 1 + size]
        if size < 1 or len(part) != size:
            raise ValueError("a count that doesn't fit")
        parts.append(part)
        place += 1 + size
    return parts


def ask(*calls):
    """The answer to each of these calls, made one after another on new objects."""
    line = [number for call in calls for number in call]
    parts = split(answers(line))
    if len(parts) != len(calls):
        raise ValueError("not one answer for each call")
    return parts


def crc32c(numbers):
    """CRC-32C from the high bit with the other polynomial, so that it shares no step with the program's."""
    check = 0xFFFFFFFF
    for number in numbers:
        check ^= int(format(number, "08b")[::-1], 2) << 24
        for _ in range(8):
            check = (check << 1) ^ (0x11EDC6F41 if check >> 31 else 0)
    return int(format(check ^ 0xFFFFFFFF, "032b")[::-1], 2)


def sealed(numbers):
    """These 36 bytes with their check behind them."""
    return list(numbers) + list(crc32c(numbers).to_bytes(4, "little"))


def message(me, to, errand=None, rests=0, taken=0, wave=0, sent=0, all_taken=0):
    """The 40 bytes as the document tells them; errand is (number, task)."""
    number, task = errand or (0, 0)
    head = bytes([me, to, 0 if errand is None else 1, rests])
    body = b"".join(part.to_bytes(4, "little") for part in (taken, number, task, wave))
    return sealed(head + body + sent.to_bytes(8, "little") + all_taken.to_bytes(8, "little"))


def changed(said, place, number):
    """The message with another byte at this place, and a check that is right again."""
    return sealed(said[:place] + [number] + said[place + 1:36])
