"""What the tests ask with: calls by name, and answers taken apart call by call."""
from wheeldrawn.ring import answers


def begin(teeth):
    return [0, teeth]


def wheel(teeth):
    return [1, teeth]


def figure(number):
    return [2, number]


def point(number, begun, k):
    return [3, number, begun, k]


def when(number, begun, tooth):
    return [4, number, begun, tooth]


def crossings(number):
    return [5, number]


def make(points):
    return [6, points]


def common(number, tooth, other, other_tooth):
    return [7, number, tooth, other, other_tooth]


def same(number, tooth, other, other_tooth):
    return [8, number, tooth, other, other_tooth]


def cover(number):
    return [9, number]


def turns(number, other):
    return [10, number, other]


def turn(number, other, begun, k):
    return [11, number, other, begun, k]


def look():
    return [12]


def take_apart(numbers):
    """The answers, call by call, from counts with their numbers behind them."""
    apart = []
    place = 0
    while place < len(numbers):
        end = place + 1 + numbers[place]
        if numbers[place] < 1 or end > len(numbers):
            raise AssertionError("a count does not fit at %d: %r" % (place, numbers))
        apart.append(numbers[place + 1:end])
        place = end
    return apart


def ask(*calls):
    """One answer, a list, for each of the calls, all on one new box."""
    apart = take_apart(answers([number for call in calls for number in call]))
    if len(apart) != len(calls):
        raise AssertionError("%d calls, %d answers" % (len(calls), len(apart)))
    return apart


def ask_last(*calls):
    return ask(*calls)[-1]


def in_parts(calls, size=50):
    """The calls in runs short enough for one list beside a begin and wheels."""
    return [calls[at:at + size] for at in range(0, len(calls), size)]


def ask_of_wheels(teeth, steps, calls):
    """The answers to the calls on a ring with these wheels, however many they are."""
    given = []
    for part in in_parts(calls):
        given.extend(ask(begin(teeth), *[wheel(step) for step in steps], *part)[1 + len(steps):])
    return given


def ask_of_wheel(teeth, step, calls):
    return ask_of_wheels(teeth, [step], calls)


def walked(teeth, step, begun):
    """The points of a figure until it closes, found by rolling tooth by tooth;
    for each how often tooth 0 has been come to by then."""
    points = []
    place = begun
    passed = 0
    while not points or place != begun:
        points.append((place, passed))
        for tooth in range(step):
            place = 0 if place == teeth - 1 else place + 1
            passed += 1 if place == 0 else 0
    return points


def places(teeth, step, begun):
    return [place for place, passed in walked(teeth, step, begun)]


def lines_of(teeth, step, begun):
    """The lines of a figure, each once, as pairs with the lower tooth first."""
    points = places(teeth, step, begun)
    ends = zip(points, points[1:] + points[:1])
    return sorted(set((min(pair), max(pair)) for pair in ends))


def laid_in_turn(teeth, step, other, begun, many):
    """So many points of two wheels in turn, laid one by one."""
    points = [begun]
    while len(points) < many:
        place = points[-1] + (step if len(points) % 2 == 1 else other)
        points.append(place if place < teeth else place - teeth)
    return points


def every_wheel(rings=range(3, 61)):
    return [(teeth, step) for teeth in rings for step in range(1, teeth)]
