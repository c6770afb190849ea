"""Programs written as lines, and read from them."""

from turnedrun.errors import BadLine
from turnedrun.things import FIGURES, QUESTION_SIGNS, SUM_SIGNS, is_name

# The words of the lines at which an if or a round begins, changes its side, and is over.
MARKS = {"if": ("if", "else", "fi"), "round": ("from", "loop", "until")}
BEGINNINGS = {"if": "if", "from": "round"}
MOST_FIGURES = 6


def written(program):
    """The lines of a program."""
    lines = []
    for name, rows in program:
        lines.append(f"block {name}")
        lines.extend(written_rows(rows))
    return lines


def written_rows(rows):
    """The lines of rows."""
    lines = []
    for row in rows:
        lines.extend(written_row(row))
    return lines


def written_row(row):
    """The lines of one row."""
    word = row[0]
    if word in ("if", "round"):
        return written_branching(row)
    if word == "put":
        return [f"{row[1]} {row[2]}= {written_sum(row[3])}"]
    if word == "swap":
        return [f"{row[1]} <> {row[2]}"]
    return [f"{word} {row[1]}"]


def written_branching(row):
    """The lines of an if or a round."""
    word, first, body, back, last = row
    beginning, middle, end = MARKS[word]
    lines = [f"{beginning} {written_sum(first)}"]
    lines.extend(written_rows(body))
    lines.append(middle)
    lines.extend(written_rows(back))
    lines.append(f"{end} {written_sum(last)}")
    return lines


def written_sum(the_sum):
    """The text of a sum or a question."""
    if len(the_sum) == 1:
        return f"{the_sum[0]}"
    sign, left, right = the_sum
    return f"{left} {sign} {right}"


def read(lines):
    """The program that is written by these lines; the first wrong one is refused."""
    reader = Reader()
    for number, line in enumerate(lines):
        reader.take(line.split(" "), number)
    if reader.begun:
        raise BadLine(len(lines))
    return reader.program


class Begun:
    """An if or a round that is not over, within the rows outer."""

    def __init__(self, word, question, outer):
        self.word = word
        self.question = question
        self.outer = outer
        self.sides = [[]]

    def wanted(self):
        """The word of the line that ends the side which is read."""
        return MARKS[self.word][len(self.sides)]


class Reader:
    """The blocks that are read so far, the rows that the next row joins, and what is not over."""

    def __init__(self):
        self.program = []
        self.rows = None
        self.begun = []

    def take(self, words, at):
        """Read one line by its words; at is its number."""
        word = words[0]
        if word == "block":
            self.take_block(words, at)
        elif self.rows is None:
            raise BadLine(at)
        elif word in BEGINNINGS:
            self.begin(words, at)
        elif word in ("else", "loop"):
            self.change_side(words, at)
        elif word in ("fi", "until"):
            self.end(words, at)
        else:
            self.rows.append(read_row(words, at))

    def take_block(self, words, at):
        """A block begins, where no if or round waits to be over."""
        name = read_last(words, at)
        if self.begun:
            raise BadLine(at)
        self.rows = []
        self.program.append((name, self.rows))

    def begin(self, words, at):
        """An if or a round begins with its first side."""
        question = read_signed(words[1:], QUESTION_SIGNS, at)
        latest = Begun(BEGINNINGS[words[0]], question, self.rows)
        self.begun.append(latest)
        self.rows = latest.sides[0]

    def change_side(self, words, at):
        """The second side of the latest if or round begins."""
        self.check_wanted(words[0], at)
        if len(words) > 1:
            raise BadLine(at)
        self.rows = []
        self.begun[-1].sides.append(self.rows)

    def end(self, words, at):
        """The latest if or round is over, and a row of the rows around it."""
        self.check_wanted(words[0], at)
        question = read_signed(words[1:], QUESTION_SIGNS, at)
        latest = self.begun.pop()
        self.rows = latest.outer
        self.rows.append((latest.word, latest.question, *latest.sides, question))

    def check_wanted(self, word, at):
        """Refuse a word that the latest if or round does not want next."""
        if not self.begun or self.begun[-1].wanted() != word:
            raise BadLine(at)


def read_row(words, at):
    """The row of a line that is a row by itself."""
    if words[0] in ("push", "pull", "call", "undo"):
        return words[0], read_last(words, at)
    name = read_name(words[0], at)
    sign = words[1] if len(words) > 1 else ""
    if sign == "<>" and len(words) == 3:
        return "swap", name, read_name(words[2], at)
    if sign in ("+=", "-="):
        return "put", name, sign[0], read_sum(words[2:], at)
    raise BadLine(at)


def read_last(words, at):
    """The name that is the second of two words."""
    if len(words) != 2:
        raise BadLine(at)
    return read_name(words[1], at)


def read_name(word, at):
    """The word, which is a name."""
    if not is_name(word):
        raise BadLine(at)
    return word


def read_sum(words, at):
    """The sum of these words."""
    if len(words) == 1:
        return (read_thing(words[0], at),)
    return read_signed(words, SUM_SIGNS, at)


def read_signed(words, signs, at):
    """The sum or question of a thing, one of the signs and a thing."""
    if len(words) != 3 or words[1] not in signs:
        raise BadLine(at)
    return words[1], read_thing(words[0], at), read_thing(words[2], at)


def read_thing(word, at):
    """The number or the name that a word is."""
    if is_written_number(word):
        return int(word)
    return read_name(word, at)


def is_written_number(word):
    """Whether a word is a number, by figures and with no 0 ahead."""
    # So many figures with no 0 ahead never come to more than a number may be.
    if not 1 <= len(word) <= MOST_FIGURES or not all([sign in FIGURES for sign in word]):
        return False
    return word == "0" or word[0] != "0"
