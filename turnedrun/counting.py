"""What runs of rows and of plain rows have in common: boxes, and steps that are counted."""

from turnedrun.things import asked


class RunOver(Exception):
    """A run ends ahead of its last row, with a word and the place of a row or None."""

    def __init__(self, word, place):
        Exception.__init__(self, word)
        self.word = word
        self.place = place


class Counting:
    """The boxes of a run, and how many steps it has made of those that it may make."""

    def __init__(self, boxes, most):
        self.boxes = dict(boxes)
        self.most = most
        self.steps = 0

    def count_step(self):
        """One step more; where it may not be made, the run is over."""
        if self.steps >= self.most:
            raise RunOver("long", None)
        self.steps += 1

    def ask(self, question):
        """The answer to a question, which is a step."""
        self.count_step()
        return asked(question, self.boxes)

    def told_boxes(self):
        """The boxes that do not hold 0."""
        return {name: self.boxes[name] for name in self.boxes if self.boxes[name] != 0}
