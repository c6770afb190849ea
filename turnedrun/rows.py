"""Which programs are good, and what is wrong first in one that is not."""

from turnedrun.errors import BadName, BadNumber, BadProgram, BadRow, OwnBox, TooDeep
from turnedrun.things import QUESTION_SIGNS, SUM_SIGNS, is_name, is_number

MOST_BLOCKS = 12
DEEPEST = 8
LENGTHS = {"put": 4, "swap": 3, "push": 2, "pull": 2, "if": 5, "round": 5, "call": 2, "undo": 2}


def checked(program):
    """How many rows a good program has in all; the first wrong thing of another one is refused."""
    check_blocks(program)
    names = [name for name, rows in program]
    many = 0
    for name, rows in program:
        many += checked_rows(rows, (name,), 1, names)
    return many


def check_blocks(program):
    """Refuse what is no list of blocks, or has two of one name."""
    if not isinstance(program, list) or not 1 <= len(program) <= MOST_BLOCKS:
        raise BadProgram(None)
    for block in program:
        if not is_block(block):
            raise BadProgram(None)
    if len({name for name, rows in program}) < len(program):
        raise BadName(None)


def is_block(block):
    """Whether a thing of any kind is a tuple of a name and a list."""
    if not isinstance(block, tuple) or len(block) != 2:
        return False
    return is_name(block[0]) and isinstance(block[1], list)


def checked_rows(rows, place, level, names):
    """How many rows there are in a list of rows; the place is the one that the list has."""
    many = 0
    for number, row in enumerate(rows):
        many += checked_row(row, (*place, number), level, names)
    return many


def checked_row(row, place, level, names):
    """How many rows a row is, with those within it."""
    check_form(row, place)
    # The level stands between form and parts, so a row that is too deep is never looked into.
    if level > DEEPEST:
        raise TooDeep(place)
    check_parts(row, place, names)
    if row[0] not in ("if", "round"):
        return 1
    first = checked_rows(row[2], (*place, 0), level + 1, names)
    second = checked_rows(row[3], (*place, 1), level + 1, names)
    return 1 + first + second


def check_form(row, place):
    """Refuse a row by its first word and its length."""
    if not isinstance(row, tuple) or not row or not isinstance(row[0], str):
        raise BadRow(place)
    if LENGTHS.get(row[0]) != len(row):
        raise BadRow(place)


def check_parts(row, place, names):
    """Refuse the first wrong part of a row, but for what is wrong with the rows within it."""
    if row[0] == "put":
        check_put(row, place)
    elif row[0] in ("if", "round"):
        check_branching(row, place)
    elif row[0] in ("call", "undo"):
        check_block_name(row[1], place, names)
    else:
        for name in row[1:]:
            check_name(name, place)


def check_put(row, place):
    """Refuse the first wrong part of a put."""
    name, sign, the_sum = row[1:]
    check_name(name, place)
    if not is_sign(sign, ("+", "-")):
        raise BadRow(place)
    check_sum(the_sum, place)
    if name in the_sum:
        raise OwnBox(place)


def check_branching(row, place):
    """Refuse the first wrong part of an if or a round."""
    check_signed(row[1], QUESTION_SIGNS, place)
    for rows in row[2:4]:
        if not isinstance(rows, list):
            raise BadRow(place)
    check_signed(row[4], QUESTION_SIGNS, place)


def check_name(thing, place):
    """Refuse what is no name."""
    if not is_name(thing):
        raise BadName(place)


def check_block_name(thing, place, names):
    """Refuse what is not the name of one of the blocks."""
    if not isinstance(thing, str) or thing not in names:
        raise BadName(place)


def check_sum(the_sum, place):
    """Refuse what is no sum."""
    if isinstance(the_sum, tuple) and len(the_sum) == 1:
        check_things(the_sum, place)
    else:
        check_signed(the_sum, SUM_SIGNS, place)


def check_signed(told, signs, place):
    """Refuse what is no tuple of one of the signs and two things."""
    if not isinstance(told, tuple) or len(told) != 3 or not is_sign(told[0], signs):
        raise BadRow(place)
    check_things(told[1:], place)


def is_sign(thing, signs):
    """Whether a thing of any kind is one of the signs."""
    # Asked for a text first, as a thing of another kind may fail when it is compared.
    return isinstance(thing, str) and thing in signs


def check_things(things, place):
    """Refuse the first one that is neither a name nor a number."""
    for thing in things:
        if isinstance(thing, str):
            check_name(thing, place)
        elif not is_number(thing):
            raise BadNumber(place)
