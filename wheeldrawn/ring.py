"""The ring, its wheels and the figures they draw, asked by lists of calls."""

FEWEST_TEETH = 3
MOST_TEETH = 60
MOST_WHEELS = 6
LAST_POINT = 100000

OUT_OF_RANGE = -1
NO_WHEEL = -2
BOX_FULL = -5
NEVER = -6
NO_BOX = -9

BEGIN = 0

# What the numbers of each call are, at the call's own number: by it a list is
# cut into calls, and what isn't there is refused alike, whichever call it is.
KINDS = (
    ("teeth",),
    ("teeth",),
    ("wheel",),
    ("wheel", "tooth", "k"),
    ("wheel", "tooth", "tooth"),
    ("wheel",),
    ("points",),
    ("wheel", "tooth", "wheel", "tooth"),
    ("wheel", "tooth", "wheel", "tooth"),
    ("wheel",),
    ("wheel", "wheel"),
    ("wheel", "wheel", "tooth", "k"),
    (),
)


class Box:
    """A ring and its wheels; a ring of 0 teeth means that there is no box."""

    def __init__(self):
        self.teeth = 0
        self.wheels = []


def common_divisor(one, other):
    """The greatest number that divides both."""
    while other != 0:
        rest = one % other
        one = other
        other = rest
    return one


def points_and_rounds(teeth, step):
    """How many points a figure has, and how often it goes round until it closes."""
    gap = common_divisor(teeth, step)
    return (teeth // gap, step // gap)


def begin(box, numbers):
    teeth = numbers[0]
    if teeth < FEWEST_TEETH or teeth > MOST_TEETH:
        return [OUT_OF_RANGE]
    box.teeth = teeth
    box.wheels = []
    return [0]


def wheel(box, numbers):
    teeth = numbers[0]
    if teeth < 1 or teeth >= box.teeth:
        return [OUT_OF_RANGE]
    if len(box.wheels) == MOST_WHEELS:
        return [BOX_FULL]
    box.wheels.append(teeth)
    return [len(box.wheels) - 1]


def figure(box, numbers):
    step = box.wheels[numbers[0]]
    closing = points_and_rounds(box.teeth, step)
    # The points stand evenly on the ring, in whatever order they are drawn.
    gap = box.teeth // closing[0]
    return [closing[0], closing[1], gap]


def point(box, numbers):
    step = box.wheels[numbers[0]]
    begun = numbers[1]
    k = numbers[2]
    return [(begun + k * step) % box.teeth]


def when(box, numbers):
    step = box.wheels[numbers[0]]
    begun = numbers[1]
    tooth = numbers[2]
    # No figure has more points than the ring has teeth.
    for k in range(box.teeth):
        way = begun + k * step
        if way % box.teeth == tooth:
            # The way is counted from tooth 0 on, so each whole ring in it is
            # one coming to tooth 0; begun there, the first way is 0.
            return [k, way // box.teeth]
    return [NEVER]


def crossings(box, numbers):
    step = box.wheels[numbers[0]]
    closing = points_and_rounds(box.teeth, step)
    points = closing[0]
    rounds = closing[1]
    # Counted in points of the figure, a line spans as many as there are
    # rounds, or seen from its other side the rest.
    cut_off = min(rounds, points - rounds) - 1
    # Each point that a line cuts off sends both its lines across it: twice as
    # many crossings on each line, and each of them is on two lines.
    return [points * cut_off]


def make(box, numbers):
    points = numbers[0]
    if points < 1 or points > box.teeth:
        return [OUT_OF_RANGE]
    fitting = [step for step in range(1, box.teeth) if points_and_rounds(box.teeth, step)[0] == points]
    return [len(fitting)] + fitting


def comes_to(teeth, step, begun, tooth):
    """Whether a figure begun there has that tooth among its points."""
    return (tooth - begun) % common_divisor(teeth, step) == 0


def common(box, numbers):
    step = box.wheels[numbers[0]]
    other_step = box.wheels[numbers[2]]
    of_one = [tooth for tooth in range(box.teeth) if comes_to(box.teeth, step, numbers[1], tooth)]
    of_both = [tooth for tooth in of_one if comes_to(box.teeth, other_step, numbers[3], tooth)]
    return [len(of_both)] + of_both[:1]


def same(box, numbers):
    step = box.wheels[numbers[0]]
    other_step = box.wheels[numbers[2]]
    # A line joins two teeth that lie a step apart, or seen from its other end
    # the rest of the ring apart. With like lines the points stand as far apart
    # too, so one tooth in common means that all are.
    like_lines = other_step == step or other_step == box.teeth - step
    if like_lines and comes_to(box.teeth, step, numbers[1], numbers[3]):
        return [1]
    return [0]


def cover(box, numbers):
    step = box.wheels[numbers[0]]
    # Two figures of one wheel have all points in common or none, so as many
    # are needed as there are teeth from one point to the neighbouring one.
    return [common_divisor(box.teeth, step)]


def place_in_turn(teeth, steps, begun, k):
    """Where the point k of two wheels in turn lies."""
    pairs = k // 2
    # At an odd point the first wheel has rolled once more than the second.
    return (begun + (k - pairs) * steps[0] + pairs * steps[1]) % teeth


def points_in_turn(teeth, steps):
    """After how many points two wheels in turn close."""
    if steps[0] == steps[1]:
        # Which of two like wheels comes next makes no difference to the
        # places, so that they may close behind the first one as well.
        return points_and_rounds(teeth, steps[0])[0]
    # Unlike wheels go on as before only where the first one comes next again.
    # Each pair of turns is like one turn of a wheel with the teeth of both.
    return 2 * points_and_rounds(teeth, steps[0] + steps[1])[0]


def turns(box, numbers):
    steps = (box.wheels[numbers[0]], box.wheels[numbers[1]])
    points = points_in_turn(box.teeth, steps)
    places = [place_in_turn(box.teeth, steps, 0, k) for k in range(points)]
    # Until they close, unlike wheels may come to one tooth twice.
    return [len(set(places)), points]


def turn(box, numbers):
    steps = (box.wheels[numbers[0]], box.wheels[numbers[1]])
    return [place_in_turn(box.teeth, steps, numbers[2], numbers[3])]


def look(box, numbers):
    return [box.teeth, len(box.wheels)] + box.wheels


# At the number of each call what answers it, once nothing common to all
# calls refuses it.
CALLS = (begin, wheel, figure, point, when, crossings, make, common, same, cover, turns, turn, look)


def names_missing_wheel(box, kinds, numbers):
    for kind, number in zip(kinds, numbers):
        if kind == "wheel" and number >= len(box.wheels):
            return True
    return False


def names_missing_tooth(box, kinds, numbers):
    """Whether a tooth isn't there, or k is too great, which is refused alike."""
    for kind, number in zip(kinds, numbers):
        if kind == "tooth" and number >= box.teeth:
            return True
        if kind == "k" and number > LAST_POINT:
            return True
    return False


def answer(box, call, numbers):
    """The numbers that one call answers, a refusal alone."""
    if call != BEGIN and box.teeth == 0:
        return [NO_BOX]
    kinds = KINDS[call]
    if names_missing_wheel(box, kinds, numbers):
        return [NO_WHEEL]
    if names_missing_tooth(box, kinds, numbers):
        return [OUT_OF_RANGE]
    answering = CALLS[call]
    return answering(box, numbers)


def answers(calls):
    """For each call of the list how many numbers it answers, then these."""
    box = Box()
    given = []
    place = 0
    while place < len(calls):
        call = calls[place]
        end = place + 1 + len(KINDS[call])
        told = answer(box, call, calls[place + 1:end])
        given.append(len(told))
        given.extend(told)
        place = end
    return given
