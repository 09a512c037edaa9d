"""What a step is, and which code is let in."""

from netsieve.errors import NotLetIn
from netsieve.numbers import DIVIDING, OPS, SHIFTING, WIDTH, is_number, is_whole

MOST_STEPS = 2000
FARTHEST = 2000
SLOTS = 8
SIZES = (1, 2, 4)
BASES = ("at", "x")
TESTS = ("equal", "above", "least", "any")

# The kinds of the parts that stand behind a step's first word.
PARTS = {
    "load": ("size", "base", "number"),
    "len": (),
    "set": ("number",),
    "setx": ("number",),
    "tax": (),
    "txa": (),
    "keep": ("slot",),
    "fetch": ("slot",),
    "do": ("op", "number"),
    "dox": ("op",),
    "jump": ("distance",),
    "if": ("test", "number", "distance", "distance"),
    "ifx": ("test", "distance", "distance"),
    "tell": ("number",),
    "tella": (),
}


def is_step(thing):
    if not isinstance(thing, tuple) or len(thing) == 0:
        return False
    # A list as the first part could not be looked up.
    if not isinstance(thing[0], str) or thing[0] not in PARTS:
        return False
    kinds = PARTS[thing[0]]
    if len(thing) != 1 + len(kinds):
        return False
    if not all([is_part(kind, part) for kind, part in zip(kinds, thing[1:])]):
        return False
    return thing[0] != "do" or can_be_done_by(thing[1], thing[2])


def is_part(kind, part):
    if kind == "number":
        return is_number(part)
    if kind == "size":
        return is_whole(part) and part in SIZES
    if kind == "slot":
        return is_whole(part) and 0 <= part < SLOTS
    if kind == "distance":
        return is_whole(part) and 0 <= part <= FARTHEST
    if kind == "base":
        return part in BASES
    if kind == "op":
        return part in OPS
    return part in TESTS


def can_be_done_by(op, k):
    if op in DIVIDING:
        return k != 0
    if op in SHIFTING:
        return k < WIDTH
    return True


def look(code):
    place = first_wrong_place(code)
    if place is not None:
        raise NotLetIn(place)


def is_let_in(code):
    return first_wrong_place(code) is None


# Ways lead forward alone, so what is known of a place is known before it is looked at.
def first_wrong_place(code):
    if not 1 <= len(code) <= MOST_STEPS:
        return 0
    kept = {0: no_slots()}
    for place, step in enumerate(code):
        if not is_step(step):
            return place
        if place in kept and lacks_its_slot(step, kept[place]):
            return place
        goals = goals_from(place, step)
        if any([goal >= len(code) for goal in goals]):
            return place
        if place in kept:
            hand_on(kept, goals, kept_behind(step, kept[place]))
    return None


# The places that may be next, whatever the numbers are.
def goals_from(place, step):
    after = place + 1
    if step[0] in ("tell", "tella"):
        return []
    if step[0] == "jump":
        return [after + step[1]]
    if step[0] in ("if", "ifx"):
        return [after + step[-2], after + step[-1]]
    return [after]


def no_slots():
    return [False] * SLOTS


def lacks_its_slot(step, slots):
    return step[0] == "fetch" and not slots[step[1]]


def kept_behind(step, slots):
    if step[0] != "keep":
        return slots
    return [kept or slot == step[1] for slot, kept in enumerate(slots)]


# Where ways meet, a slot counts as kept only if it is kept on each of them.
def hand_on(kept, goals, slots):
    for goal in goals:
        before = kept.get(goal, slots)
        kept[goal] = [one and other for one, other in zip(before, slots)]
