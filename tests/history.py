"""A slow player for the tests: it asks its whole history for the words of [0.6] and [0.7].

It shares no state with the package: age, rest and wait are counted anew, backwards, in each tick.
"""


def play(crossing, rule, comings):
    """Return the lists of lights, of lines and of (passed, lost) of all ticks."""
    room, pause = crossing
    lights, ends, counts = [], [], []
    lines = [0, 0]
    told = []  # the lights of the next ticks in which the rule is not asked
    for coming in comings:
        lost = 0
        for road in cars_of(coming):
            if lines[road] == room:
                lost += 1
            else:
                lines[road] += 1
        if told:
            light = told.pop(0)
        else:
            light = road_until_now(lights)
            if changes(rule, light, lines, lights, ends, counts):
                told = [None] * pause + [1 - light]
                light = told.pop(0)
        passed = 0
        if light is not None and lines[light] > 0:
            lines[light] -= 1
            passed = 1
        lights.append(light)
        ends.append(tuple(lines))
        counts.append((passed, lost))
    return lights, ends, counts


def cars_of(coming):
    return {0: [], 1: [0], 2: [1], 3: [0, 1]}[coming]


def road_until_now(lights):
    return lights[-1] if lights else 0


def changes(rule, road, lines, lights, ends, counts):
    age = age_of(road, lights)
    other = lines[1 - road]
    if rule[0] == "clock":
        return age >= (rule[1] if road == 0 else rule[2])
    if rule[0] == "asked":
        return age >= rule[1] and other != 0
    if rule[0] == "empty":
        return other != 0 and (lines[road] == 0 or age >= rule[1])
    if rule[0] == "longer":
        return age >= rule[1] and other > lines[road]
    if rule[0] == "gap":
        rest = rest_of(road, lights, counts)
        return other != 0 and (rest >= rule[1] or age >= rule[2])
    assert rule[0] == "due", rule
    return wait_of(1 - road, lights, ends) >= rule[1]


def age_of(road, lights):
    age = 0
    while age < len(lights) and lights[-1 - age] == road:
        age += 1
    return age


def rest_of(road, lights, counts):
    rest = 0
    while rest < len(lights) and lights[-1 - rest] == road and counts[-1 - rest][0] == 0:
        rest += 1
    return rest


def wait_of(other, lights, ends):
    wait = 0
    while wait < len(lights) and lights[-1 - wait] != other and ends[-1 - wait][other] > 0:
        wait += 1
    return wait
