"""The turned program, and the places of rows in it."""

OTHER_SIGNS = {"+": "-", "-": "+"}
OTHER_WORDS = {"push": "pull", "pull": "push"}


def turned(program):
    """The program that runs as this one does from behind."""
    return [(name, turned_rows(rows)) for name, rows in program]


def turned_rows(rows):
    """The rows in the other order, each one turned."""
    return [turned_row(row) for row in reversed(rows)]


def turned_row(row):
    """The row that does what this one does from behind."""
    word = row[0]
    if word == "put":
        _, name, sign, the_sum = row
        return "put", name, OTHER_SIGNS[sign], the_sum
    if word in ("push", "pull"):
        return OTHER_WORDS[word], row[1]
    if word in ("if", "round"):
        _, first, body, back, last = row
        return word, last, turned_rows(body), turned_rows(back), first
    return row


def mirrored(program, place):
    """The place in the turned program of the row that has this place in the program."""
    blocks = {name: rows for name, rows in program}
    rows = blocks[place[0]]
    told = [place[0]]
    for at in range(1, len(place), 2):
        told.append(len(rows) - 1 - place[at])
        if at + 1 < len(place):
            side = place[at + 1]
            told.append(side)
            rows = rows[place[at]][2 + side]
    return tuple(told)
