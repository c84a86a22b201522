"""Rows of bytes: numbers in them, their check, and their stuffing."""

from lanescroll.errors import NoBytes, NoNumber, NoPlace, NoStuffing
from lanescroll.wholes import is_bytes, is_whole

GREATEST_NUMBER = 10 ** 60
BASE = 128
STUFFING = 2


def refuse_no_bytes(row):
    """Refuses what is no row of bytes."""
    if not is_bytes(row):
        raise NoBytes("this is no row of bytes")


def refuse_no_place(row, at):
    """Refuses what is no place in a row, nor the one behind its end."""
    refuse_no_bytes(row)
    if not is_whole(at, 0, len(row)):
        raise NoPlace("the row has no such place")


def written(number):
    """The bytes of a number."""
    if not is_whole(number, 0, GREATEST_NUMBER):
        raise NoNumber("this number can't be written")
    row = [number % BASE]
    rest = number // BASE
    while rest > 0:
        row.append(BASE + rest % BASE)
        rest = rest // BASE
    return row[::-1]


def number_at(row, at):
    """The pair of the number that stands from a place on and the place behind it, None where none does."""
    number = 0
    for place in range(at, len(row)):
        figure = row[place]
        if place == at and figure == BASE:
            # A 0 stands ahead: the same number can be written shorter.
            return None
        number = number * BASE + figure % BASE
        if number > GREATEST_NUMBER:
            return None
        if figure < BASE:
            return (number, place + 1)
    return None


def read_number(row, at=0):
    """The pair of the number that stands in the row from a place on and the place behind it."""
    refuse_no_place(row, at)
    found = number_at(row, at)
    if found is None:
        raise NoNumber("no number stands there")
    return found


def check(row):
    """The check of a row: a number below 65521."""
    refuse_no_bytes(row)
    found = 1
    for byte in row:
        found = (found * 257 + byte) % 65521
    return found


def stuffed(row):
    """The row with a 2 put behind each two bytes 0 that stand beside one another."""
    refuse_no_bytes(row)
    found = []
    noughts = 0
    for byte in row:
        found.append(byte)
        noughts = noughts + 1 if byte == 0 else 0
        if noughts == 2:
            found.append(STUFFING)
            noughts = 0
    return found


def unstuffed(row):
    """The row of which stuffed tells this one."""
    refuse_no_bytes(row)
    found = []
    noughts = 0
    for byte in row:
        if noughts < 2:
            found.append(byte)
            noughts = noughts + 1 if byte == 0 else 0
        elif byte == STUFFING:
            noughts = 0
        else:
            raise NoStuffing("no row is stuffed so")
    if noughts == 2:
        raise NoStuffing("the last 2 is missing")
    return found
