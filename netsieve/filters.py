"""Filters: their trees, and which packets they take."""

from netsieve.errors import BadFilter
from netsieve.machine import loaded
from netsieve.numbers import OPS, reckoned
from netsieve.words import words_of

MOST_WITHIN = 12
SUM_OPS = {"+": "plus", "-": "minus", "|": "or", "^": "xor"}
PRODUCT_OPS = {"*": "times", "/": "over", "rest": "rest", "&": "and", "<<": "left", ">>": "right"}
COMPARISONS = {"=": "same", "!=": "unlike", "<": "below", ">": "above", "<=": "most", ">=": "least"}
LOAD_SIZES = {"byte": 1, "half": 2, "word": 4}


# Goes from word to word and never behind one that can not stand there, so the place where it refuses is the wrong word.
class Reader:
    def __init__(self, words):
        self.words = words
        self.place = 0

    # None at the end, as for a wrong word: neither can stand anywhere.
    def ahead(self):
        return self.words[self.place] if self.place < len(self.words) else None

    def step_over(self):
        self.place += 1

    def step_into(self, within):
        if within >= MOST_WITHIN:
            self.refuse()
        self.place += 1

    def expect(self, word):
        if self.ahead() != word:
            self.refuse()
        self.place += 1

    def expect_end(self):
        if self.place < len(self.words):
            self.refuse()

    def refuse(self):
        raise BadFilter(self.place + 1)


def read(text):
    reader = Reader(words_of(text))
    tree = read_filter(reader, 0)
    reader.expect_end()
    return tree


# Here and below, within is how many of those that may lie within one another are open.
def read_filter(reader, within):
    tree = read_tests(reader, within)
    while reader.ahead() == "or":
        reader.step_over()
        tree = ("either", tree, read_tests(reader, within))
    return tree


def read_tests(reader, within):
    tree = read_test(reader, within)
    while reader.ahead() == "and":
        reader.step_over()
        tree = ("both", tree, read_test(reader, within))
    return tree


def read_test(reader, within):
    word = reader.ahead()
    if word == "true" or word == "false":
        reader.step_over()
        return ("truth", word == "true")
    if word == "not":
        reader.step_into(within)
        return ("not", read_test(reader, within + 1))
    if word == "so":
        return read_so(reader, within)
    return read_comparison(reader, within)


def read_so(reader, within):
    reader.step_into(within)
    reader.expect("(")
    tree = read_filter(reader, within + 1)
    reader.expect(")")
    return tree


def read_comparison(reader, within):
    tree = read_sum(reader, within)
    sign = reader.ahead()
    if sign not in COMPARISONS:
        reader.refuse()
    reader.step_over()
    return (COMPARISONS[sign], tree, read_sum(reader, within))


def read_sum(reader, within):
    tree = read_product(reader, within)
    while reader.ahead() in SUM_OPS:
        op = SUM_OPS[reader.ahead()]
        reader.step_over()
        tree = (op, tree, read_product(reader, within))
    return tree


def read_product(reader, within):
    tree = read_plain(reader, within)
    while reader.ahead() in PRODUCT_OPS:
        op = PRODUCT_OPS[reader.ahead()]
        reader.step_over()
        tree = (op, tree, read_plain(reader, within))
    return tree


def read_plain(reader, within):
    word = reader.ahead()
    if word in LOAD_SIZES:
        return read_load(reader, within)
    if word == "(":
        return read_bracket(reader, within)
    if word == "len":
        reader.step_over()
        return ("len",)
    if not isinstance(word, int):
        reader.refuse()
    reader.step_over()
    return ("number", word)


def read_load(reader, within):
    size = LOAD_SIZES[reader.ahead()]
    reader.step_into(within)
    reader.expect("[")
    tree = read_sum(reader, within + 1)
    reader.expect("]")
    return ("load", size, tree)


def read_bracket(reader, within):
    reader.step_into(within)
    tree = read_sum(reader, within + 1)
    reader.expect(")")
    return tree


# Trees wait in a list, and are not asked by a call within a call: a long row of `and` or `+` makes a deep tree.
def takes(tree, packet):
    waiting = [("ask", tree)]
    values = []
    while len(waiting) > 0:
        task = waiting.pop()
        if task[0] == "ask":
            ask(task[1], packet, waiting, values)
        else:
            answer(task[1], packet, waiting, values)
        # Told of the whole at once, whatever stands round it.
        if len(values) > 0 and values[-1] is None:
            return False
    return values[-1]


def ask(tree, packet, waiting, values):
    if tree[0] in ("number", "truth"):
        values.append(tree[1])
    elif tree[0] == "len":
        values.append(len(packet))
    else:
        waiting.append(("answer", tree))
        waiting.extend([("ask", part) for part in parts_ahead(tree)])


# The parts that are asked in any case, the first one last, so that it is the first to be taken from what waits.
def parts_ahead(tree):
    if tree[0] == "load":
        return [tree[2]]
    if tree[0] in ("not", "both", "either"):
        return [tree[1]]
    return [tree[2], tree[1]]


# None as a value: bytes are not all there, or something is divided by 0.
def answer(tree, packet, waiting, values):
    last = values.pop()
    if tree[0] == "load":
        values.append(loaded(packet, tree[1], last))
    elif tree[0] == "not":
        values.append(not last)
    elif tree[0] in ("both", "either"):
        answer_joined(tree, last, waiting, values)
    elif tree[0] in OPS:
        values.append(reckoned(tree[0], values.pop(), last))
    else:
        values.append(compared(tree[0], values.pop(), last))


def answer_joined(tree, first, waiting, values):
    if first == (tree[0] == "either"):
        values.append(first)
    else:
        waiting.append(("ask", tree[2]))


def compared(test, one, other):
    if test == "same":
        return one == other
    if test == "unlike":
        return one != other
    if test == "below":
        return one < other
    if test == "above":
        return one > other
    if test == "most":
        return one <= other
    return one >= other
