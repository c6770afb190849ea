"""Names, numbers, and what sums and questions come to."""

LETTERS = "abcdefghijklmnopqrstuvwxyz"
FIGURES = "0123456789"
LONGEST_NAME = 6
WORDS = ("block", "if", "else", "fi", "from", "loop", "until", "call", "undo", "push", "pull")
LIMIT = 1000000
QUESTION_SIGNS = ("<", "=", ">=", "!=")
SUM_SIGNS = ("+", "-", "*", "<", "=", ">=", "!=")


def is_name(thing):
    """Whether a thing of any kind is the name of a box or of a block."""
    if not isinstance(thing, str) or not 1 <= len(thing) <= LONGEST_NAME or thing in WORDS:
        return False
    signs = LETTERS + FIGURES
    return thing[0] in LETTERS and all([sign in signs for sign in thing])


def is_number(thing):
    """Whether a thing of any kind is a number that a box may hold."""
    return isinstance(thing, int) and not isinstance(thing, bool) and 0 <= thing < LIMIT


def held(thing, boxes):
    """The number that a thing stands for."""
    if isinstance(thing, str):
        return boxes.get(thing, 0)
    return thing


def compared(sign, first, second):
    """Whether two numbers are as the sign of a question says."""
    if sign == "<":
        return first < second
    if sign == "=":
        return first == second
    if sign == ">=":
        return first >= second
    return first != second


def reckoned(the_sum, boxes):
    """The number that a sum comes to."""
    if len(the_sum) == 1:
        return held(the_sum[0], boxes)
    sign, left, right = the_sum
    first = held(left, boxes)
    second = held(right, boxes)
    if sign == "+":
        return (first + second) % LIMIT
    if sign == "-":
        return (first - second) % LIMIT
    if sign == "*":
        return (first * second) % LIMIT
    return int(compared(sign, first, second))


def asked(question, boxes):
    """Whether a question is true."""
    sign, left, right = question
    return compared(sign, held(left, boxes), held(right, boxes))
