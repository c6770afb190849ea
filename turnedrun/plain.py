"""Plain rows: their run, and the programs that they are told as."""

from turnedrun.counting import Counting, RunOver
from turnedrun.things import reckoned

OPPOSITES = {"<": ">=", ">=": "<", "=": "!=", "!=": "="}


def plain_run(rows, boxes, most):
    """What the run of plain rows tells: its word, the boxes, and how many steps."""
    running = PlainRunning(boxes, most)
    try:
        running.do_rows(rows)
    except RunOver as over:
        return over.word, running.told_boxes(), running.steps
    return "done", running.told_boxes(), running.steps


class PlainRunning(Counting):
    """A run of plain rows."""

    def do_rows(self, rows):
        """Do rows from the first one to the last."""
        for row in rows:
            self.do_row(row)

    def do_row(self, row):
        """Do one row."""
        if row[0] == "set":
            self.count_step()
            self.boxes[row[1]] = reckoned(row[2], self.boxes)
        elif row[0] == "if":
            self.do_rows(row[2] if self.ask(row[1]) else row[3])
        else:
            while self.ask(row[1]):
                self.do_rows(row[2])


def translated(rows):
    """The program of one block that does what plain rows do."""
    return [("main", told_rows(rows, 1))]


def told_once(rows, name):
    """The program that does what plain rows do, adds what the box holds then to out0, and takes all else back."""
    main = [("call", "work"), ("put", "out0", "+", (name,)), ("undo", "work")]
    return [("main", main), ("work", told_rows(rows, 1))]


def told_rows(rows, level):
    """The rows that plain rows of this level are told as."""
    told = []
    for row in rows:
        told.extend(told_row(row, level))
    return told


def told_row(row, level):
    """The rows that one plain row is told as."""
    if row[0] == "set":
        return told_set(row)
    if row[0] == "if":
        return told_if(row, level)
    return told_while(row, level)


def told_set(row):
    """A set, which throws what its box held upon the pile."""
    _, name, the_sum = row
    return [("put", "t0", "+", the_sum), ("swap", name, "t0"), ("push", "t0")]


def told_if(row, level):
    """An if, which asks a box that its sides leave alone, as they may change the answer to its question."""
    _, question, yes, no = row
    box = f"w{level}"
    asking = ("=", box, 1)
    branching = ("if", asking, told_rows(yes, level + 1), told_rows(no, level + 1), asking)
    return [("put", box, "+", question), branching, ("push", box)]


def told_while(row, level):
    """A while, whose box counts how often it is done, to know from behind where it began."""
    _, (sign, left, right), body = row
    box = f"c{level}"
    back = told_rows(body, level + 1)
    back.append(("put", box, "+", (1,)))
    return [("round", ("=", box, 0), [], back, (OPPOSITES[sign], left, right)), ("push", box)]
