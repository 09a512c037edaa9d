"""Code made shorter, which tells the same."""

from netsieve.looking import goals_from, look

LEADING = ("jump", "if", "ifx")
TELLING = ("tell", "tella")


def shrunk(code):
    look(code)
    ends = ends_of(code)
    left = places_left(code, ends)
    new_places = dict([(place, new_place) for new_place, place in enumerate(left)])
    return [new_step(code, ends, place, new_places) for place in left]


# For each place, the one to which a way that comes there leads: its own where something is done or asked, another where
# a jump stands, or a test that leads to one place both ways. Ways lead forward alone, so it is walked from the last on.
def ends_of(code):
    ends = {}
    for place in range(len(code) - 1, -1, -1):
        goals = led_goals(code, ends, place)
        only_leads_on = len(goals) > 0 and goals[0] == goals[-1]
        ends[place] = goals[0] if only_leads_on else place
    return ends


# Where a jump or a test really leads; nowhere for the other steps, which only go on to the next one.
def led_goals(code, ends, place):
    if code[place][0] not in LEADING:
        return []
    return [ends[goal] for goal in goals_from(place, code[place])]


# The places whose steps are left, in their order. A place that only leads on is left just where the step ahead of it
# goes on there and another step than its end comes next: so no jump is by 0, and there are no more steps than before.
def places_left(code, ends):
    left = []
    led_to = {}
    # Where the last step that is left goes on without being a jump or a test; None if it does not.
    onward = 0
    for place in own_places(ends, len(code)):
        goes_on_here = onward is not None and ends[onward] == place
        if not goes_on_here and place not in led_to:
            continue
        if onward is not None and not goes_on_here:
            left.append(onward)
            lead(led_to, bridge_goals(code, ends[onward]))
        left.append(place)
        lead(led_to, led_goals(code, ends, place))
        onward = None if code[place][0] in LEADING + TELLING else place + 1
    return left


def own_places(ends, count):
    return [place for place in range(count) if ends[place] == place]


def lead(led_to, goals):
    for goal in goals:
        led_to[goal] = True


# In the place of a jump to a tell the tell itself is done, which leads nowhere.
def bridge_goals(code, end):
    return [] if code[end][0] in TELLING else [end]


def new_step(code, ends, place, new_places):
    step = code[place]
    end = ends[place]
    after = new_places[place] + 1
    if end != place and code[end][0] in TELLING:
        return code[end]
    if end != place:
        return ("jump", new_places[end] - after)
    if step[0] in LEADING:
        return step[:-2] + tuple([new_places[goal] - after for goal in led_goals(code, ends, place)])
    return step
