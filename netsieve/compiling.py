"""Code made of a filter's tree."""

from netsieve.errors import TooDeep
from netsieve.looking import SLOTS
from netsieve.numbers import OPS

# A step's test for each comparison, and which answer of it means that the comparison holds.
TEST_OF = {
    "same": ("equal", True),
    "unlike": ("equal", False),
    "above": ("above", True),
    "most": ("above", False),
    "least": ("least", True),
    "below": ("least", False),
}


# Ways lead forward alone, so the code is made from its last step on: what a test leads to is there before the test.
# A goal is told by how many steps there are from it to the code's end; that stays, however many are put ahead.
# What is still to be made waits in a list, in the order of the code: a long row of `and` or `+` makes a deep tree.
def compiled(tree):
    made = [("tell", 0), ("tell", 1)]
    waiting = [("truth", tree, 2, 1)]
    while len(waiting) > 0:
        task = waiting.pop()
        if task[0] == "step":
            made.append(task[1])
        elif task[0] == "number":
            waiting.extend(tasks_of_number(task[1], task[2]))
        elif task[0] == "truth":
            make_truth(task[1], task[2], task[3], made, waiting)
        else:
            waiting.append(task_of_first(task[1], task[2], task[3], len(made)))
    return list(reversed(made))


# yes and no are the goals where the tree holds, and where it does not.
def make_truth(tree, yes, no, made, waiting):
    if tree[0] == "truth":
        made.append(("jump", len(made) - (yes if tree[1] else no)))
    elif tree[0] == "not":
        waiting.append(("truth", tree[1], no, yes))
    elif tree[0] in ("both", "either"):
        waiting.extend([("first", tree, yes, no), ("truth", tree[2], yes, no)])
    else:
        made.append(step_of_test(tree[0], len(made) - yes, len(made) - no))
        waiting.extend(tasks_of_pair(tree, 0))


# Its turn comes when the second part is made: only then is it known where that begins.
def task_of_first(tree, yes, no, second):
    if tree[0] == "both":
        return ("truth", tree[1], second, no)
    return ("truth", tree[1], yes, second)


def step_of_test(comparison, to_yes, to_no):
    row = TEST_OF[comparison]
    if row[1]:
        return ("ifx", row[0], to_yes, to_no)
    return ("ifx", row[0], to_no, to_yes)


# The number comes into the hand; the slots below slot hold what is still wanted.
def tasks_of_number(tree, slot):
    if tree[0] == "number":
        return [("step", ("set", tree[1]))]
    if tree[0] == "load":
        return [("number", tree[2], slot), ("step", ("tax",)), ("step", ("load", tree[1], "x", 0))]
    if tree[0] in OPS:
        return tasks_of_pair(tree, slot) + [("step", ("dox", tree[0]))]
    return [("step", ("len",))]


# The first part comes into the hand, the second into the other. The first waits in a slot while the second is made, so
# a tree takes just as many slots as it needs, and one too many is asked for just where a comparison needs too many.
def tasks_of_pair(tree, slot):
    if slot >= SLOTS:
        raise TooDeep()
    return [
        ("number", tree[1], slot),
        ("step", ("keep", slot)),
        ("number", tree[2], slot + 1),
        ("step", ("tax",)),
        ("step", ("fetch", slot)),
    ]
