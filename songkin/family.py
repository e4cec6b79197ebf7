"""The calls on one family of tunes, handed in as one list and answered as one."""

from songkin.errors import NoRoom, NoSuchTune, NotAsTold, NoWay, UnknownCall
from songkin.reader import Reader
from songkin.versions import Versions


def answers(calls):
    """Carry out the calls on a new family; give for each how many numbers it answers, then these."""
    reader = Reader(calls)
    versions = Versions()
    told = []
    while not reader.is_done():
        told.extend(as_row(answer_or_refusal(versions, reader)))
    return told


def answer_or_refusal(versions, reader):
    """Carry out the next call, and give the numbers that it answers."""
    try:
        return answer_of(versions, reader)
    except NotAsTold:
        return [-1]
    except NoSuchTune:
        return [-2]
    except NoWay:
        return [-3]
    except NoRoom:
        return [-5]


def answer_of(versions, reader):
    """Carry out the next call, if it is not refused; give the numbers that it answers."""
    call = reader.number()
    if call == 0:
        versions.begins(reader.several(5))
        return [0]
    if call == 1:
        return [versions.tune(reader.row())]
    if call == 2:
        versions.drop(reader.number())
        return [0]
    if call == 3:
        found = versions.best(reader.number(), reader.number())
        return [found.least] + as_row([found.many]) + as_row(found.way)
    if call == 4:
        return [versions.cost(reader.number(), reader.number(), reader.row())]
    if call == 5:
        shifted = versions.shift(reader.number(), reader.number())
        return [shifted.least] + as_row([shifted.by])
    if call == 6:
        return many_and_rows(versions.far())
    if call == 7:
        return many_and_rows(versions.tree(reader.number()))
    raise UnknownCall()


def many_and_rows(rows):
    """Give how many rows there are, then each behind how many numbers it has."""
    told = [len(rows)]
    for row in rows:
        told.extend(as_row(row))
    return told


def as_row(numbers):
    """Give how many numbers there are, then these."""
    return [len(numbers)] + numbers
