"""The ring, its wheels and the figures they draw, asked by lists of calls."""

FEWEST_TEETH = 3
MOST_TEETH = 60
MOST_WHEELS = 6
LAST_POINT = 100000

OUT_OF_RANGE = -1
NO_WHEEL = -2
BOX_FULL = -5
NEVER = -6
NO_BOX = -9

BEGIN = 0

# What the numbers of each call are, at the call's own number. All calls stand
# here, since without a box each is passed over whole and answered -9.
KINDS = (
    ("teeth",),
    ("teeth",),
    ("wheel",),
    ("wheel", "tooth", "k"),
    ("wheel", "tooth", "tooth"),
    ("wheel",),
    ("points",),
    ("wheel", "tooth", "wheel", "tooth"),
    ("wheel", "tooth", "wheel", "tooth"),
    ("wheel",),
    ("wheel", "wheel"),
    ("wheel", "wheel", "tooth", "k"),
    (),
)


class Box:
    """A ring and its wheels; a ring of 0 teeth means that there is no box."""

    def __init__(self):
        self.teeth = 0
        self.wheels = []


def common_divisor(one, other):
    """The greatest number that divides both."""
    while other != 0:
        rest = one % other
        one = other
        other = rest
    return one


def points_and_rounds(teeth, step):
    """How many points a figure has, and how often it goes round until it closes."""
    gap = common_divisor(teeth, step)
    return (teeth // gap, step // gap)


def begin(box, numbers):
    teeth = numbers[0]
    if teeth < FEWEST_TEETH or teeth > MOST_TEETH:
        return [OUT_OF_RANGE]
    box.teeth = teeth
    box.wheels = []
    return [0]


def wheel(box, numbers):
    teeth = numbers[0]
    if teeth < 1 or teeth >= box.teeth:
        return [OUT_OF_RANGE]
    if len(box.wheels) == MOST_WHEELS:
        return [BOX_FULL]
    box.wheels.append(teeth)
    return [len(box.wheels) - 1]


def figure(box, numbers):
    step = box.wheels[numbers[0]]
    closing = points_and_rounds(box.teeth, step)
    # The points stand evenly on the ring, in whatever order they are drawn.
    gap = box.teeth // closing[0]
    return [closing[0], closing[1], gap]


def point(box, numbers):
    step = box.wheels[numbers[0]]
    begun = numbers[1]
    k = numbers[2]
    return [(begun + k * step) % box.teeth]


def when(box, numbers):
    step = box.wheels[numbers[0]]
    begun = numbers[1]
    tooth = numbers[2]
    # No figure has more points than the ring has teeth.
    for k in range(box.teeth):
        way = begun + k * step
        if way % box.teeth == tooth:
            # The way is counted from tooth 0 on, so each whole ring in it is
            # one coming to tooth 0; begun there, the first way is 0.
            return [k, way // box.teeth]
    return [NEVER]


def crossings(box, numbers):
    step = box.wheels[numbers[0]]
    closing = points_and_rounds(box.teeth, step)
    points = closing[0]
    rounds = closing[1]
    # Counted in points of the figure, a line spans as many as there are
    # rounds, or seen from its other side the rest.
    cut_off = min(rounds, points - rounds) - 1
    # Each point that a line cuts off sends both its lines across it: twice as
    # many crossings on each line, and each of them is on two lines.
    return [points * cut_off]


def make(box, numbers):
    points = numbers[0]
    if points < 1 or points > box.teeth:
        return [OUT_OF_RANGE]
    fitting = [step for step in range(1, box.teeth) if points_and_rounds(box.teeth, step)[0] == points]
    return [len(fitting)] + fitting


# At the number of each call what answers it, once nothing common to all
# calls refuses it.
CALLS = (begin, wheel, figure, point, when, crossings, make)


def names_missing_wheel(box, kinds, numbers):
    for kind, number in zip(kinds, numbers):
        if kind == "wheel" and number >= len(box.wheels):
            return True
    return False


def names_missing_tooth(box, kinds, numbers):
    """Whether a tooth isn't there, or k is too great, which is refused alike."""
    for kind, number in zip(kinds, numbers):
        if kind == "tooth" and number >= box.teeth:
            return True
        if kind == "k" and number > LAST_POINT:
            return True
    return False


def answer(box, call, numbers):
    """The numbers that one call answers, a refusal alone."""
    if call != BEGIN and box.teeth == 0:
        return [NO_BOX]
    kinds = KINDS[call]
    if names_missing_wheel(box, kinds, numbers):
        return [NO_WHEEL]
    if names_missing_tooth(box, kinds, numbers):
        return [OUT_OF_RANGE]
    answering = CALLS[call]
    return answering(box, numbers)


def answers(calls):
    """For each call of the list how many numbers it answers, then these."""
    box = Box()
    given = []
    place = 0
    while place < len(calls):
        call = calls[place]
        end = place + 1 + len(KINDS[call])
        told = answer(box, call, calls[place + 1:end])
        given.append(len(told))
        given.extend(told)
        place = end
    return given
