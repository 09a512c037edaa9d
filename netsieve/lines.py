"""Code as lines of text."""

from netsieve.errors import BadLine
from netsieve.looking import is_step
from netsieve.words import number_of


def written(code):
    return "".join([line_of(step) for step in code])


def line_of(step):
    return " ".join([str(part) for part in step]) + "\n"


def read_code(text):
    lines = text.split("\n")
    steps = [step_of(line) for line in lines[:-1]]
    if None in steps:
        raise BadLine(steps.index(None) + 1)
    # Behind the last line end there is nothing, or a line without one.
    if lines[-1] != "":
        raise BadLine(len(lines))
    return steps


# None where the line writes no step.
def step_of(line):
    step = tuple([part_of(piece) for piece in line.split(" ")])
    return step if is_step(step) else None


# None for figures that are no number, or have noughts ahead: no step has such a part.
def part_of(piece):
    if not piece.isdigit():
        return piece
    if piece[0] == "0" and piece != "0":
        return None
    return number_of(piece)
