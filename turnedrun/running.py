"""Runs of a program, forth and from behind."""

from turnedrun.counting import Counting, RunOver
from turnedrun.things import held, reckoned
from turnedrun.turning import OTHER_SIGNS

MOST_CALLS = 10


def run(program, boxes, pile, most):
    """What the run of a program tells: its word, the boxes, the pile, how many steps, and a place or None."""
    return told_run(program, Running(program, boxes, pile, most), False)


def run_back(program, boxes, pile, most):
    """What the run of a program from behind tells, as run does."""
    return told_run(program, Running(program, boxes, pile, most), True)


def told_run(program, running, back):
    """What the run of the first block tells."""
    name, rows = program[0]
    try:
        running.do_rows(rows, (name,), back)
    except RunOver as over:
        return running.told(over.word, over.place)
    return running.told("done", None)


class Running(Counting):
    """A run of a program; each of its rows is done forth, or from behind where back is True."""

    def __init__(self, program, boxes, pile, most):
        Counting.__init__(self, boxes, most)
        self.blocks = {name: rows for name, rows in program}
        self.pile = list(pile)
        self.calls = 0

    def told(self, word, place):
        """What a run that ends with this word and place tells."""
        return word, self.told_boxes(), self.pile, self.steps, place

    def do_rows(self, rows, place, back):
        """Do rows; the place is the one that their list has."""
        numbers = list(range(len(rows)))
        if back:
            numbers.reverse()
        for number in numbers:
            self.do_row(rows[number], (*place, number), back)

    def do_row(self, row, place, back):
        """Do one row at its place."""
        if row[0] == "if":
            self.do_if(row, place, back)
        elif row[0] == "round":
            self.do_round(row, place, back)
        else:
            self.count_step()
            self.do_step(row, place, back)

    def do_step(self, row, place, back):
        """Do a row that is one step."""
        word = row[0]
        if word == "put":
            self.put(row, back)
        elif word == "swap":
            self.swap(row[1], row[2])
        elif word in ("call", "undo"):
            # To undo from behind is to do the block forth.
            self.enter(row[1], place, back != (word == "undo"))
        elif (word == "push") != back:
            self.push(row[1])
        else:
            self.pull(row[1], place)

    def put(self, row, back):
        """The box of a put holds more or less by the sum."""
        _, name, sign, the_sum = row
        if back:
            sign = OTHER_SIGNS[sign]
        amount = reckoned(the_sum, self.boxes)
        self.boxes[name] = reckoned((sign, name, amount), self.boxes)

    def swap(self, first, second):
        """Both boxes change what they hold."""
        was = held(first, self.boxes)
        self.boxes[first] = held(second, self.boxes)
        self.boxes[second] = was

    def push(self, name):
        """What the box holds goes upon the pile."""
        self.pile.append(held(name, self.boxes))
        self.boxes[name] = 0

    def pull(self, name, place):
        """The box, which holds 0, holds the top of the pile."""
        if held(name, self.boxes) != 0 or not self.pile:
            raise RunOver("against", place)
        self.boxes[name] = self.pile.pop()

    def enter(self, name, place, back):
        """Do the rows of a block, for the call or undo at this place."""
        if self.calls >= MOST_CALLS:
            raise RunOver("deep", place)
        self.calls += 1
        self.do_rows(self.blocks[name], (name,), back)
        self.calls -= 1

    def do_if(self, row, place, back):
        """Do the side that the first question tells; the last one has the same answer."""
        first, last = questions(row, back)
        answer = self.ask(first)
        side = 0 if answer else 1
        self.do_rows(row[2 + side], (*place, side), back)
        self.want(last, answer, place)

    def do_round(self, row, place, back):
        """Do BODY, and BACK and BODY again until the last question is true; the first one is true at first only."""
        first, last = questions(row, back)
        self.want(first, True, place)
        self.do_rows(row[2], (*place, 0), back)
        while not self.ask(last):
            self.do_rows(row[3], (*place, 1), back)
            self.want(first, False, place)
            self.do_rows(row[2], (*place, 0), back)

    def want(self, question, answer, place):
        """Ask a question of the row at this place that has to come to this answer."""
        if self.ask(question) != answer:
            raise RunOver("against", place)


def questions(row, back):
    """The first question and the last one that an if or a round asks."""
    if back:
        return row[4], row[1]
    return row[1], row[4]
