"""Going on as one is answered: by how few stands, and by how few steps, one surely finds the thing."""

from warmcold.checks import check_going_length, check_place, check_stretch


def parts_of(stretch, earlier, later):
    """What can be left of the stretch, by the answers that can come to a move between two unlike places."""
    low, high = stretch
    # The thing lies below the middle of both stands, in it or above it. The
    # middle may lie between two places, so it is kept twice as great.
    middle_twice = earlier + later
    below = (low, min(high, (middle_twice - 1) // 2))
    inside = (max(low, (middle_twice + 1) // 2), min(high, middle_twice // 2))
    above = (max(low, middle_twice // 2 + 1), high)
    return [part for part in (below, inside, above) if part[0] <= part[1]]


def other_places(length, place):
    return [other for other in range(1, length + 1) if other != place]


def stands_are_enough(length, stretch, place, many, known):
    """Whether so many further stands surely find the thing; known keeps what was found out."""
    low, high = stretch
    if low == high:
        return True
    # An answer leaves two stretches at most, and one single place between them:
    # so 0, 1, 2, 3 stands tell at most 1, 3, 7, 15 places apart, and so on.
    if high - low + 1 >= 2 << many:
        return False
    state = (low, high, place, many)
    if state not in known:
        known[state] = first_onward(length, stretch, place, many, known) is not None
    return known[state]


def first_onward(length, stretch, place, many, known):
    """The first other place by which so many further stands are enough, None where there is none."""
    for onward in other_places(length, place):
        parts = parts_of(stretch, place, onward)
        if all([stands_are_enough(length, part, onward, many - 1, known) for part in parts]):
            return onward
    return None


def stands_from(length, stretch, place):
    """The least number of further stands, and the first other place to go on to."""
    check_going_length(length)
    check_stretch(stretch, length)
    check_place(place, length)
    known = {}
    many = 0
    while not stands_are_enough(length, stretch, place, many, known):
        many += 1
    if many == 0:
        return (0, None)
    return (many, first_onward(length, stretch, place, many, known))


def stands_at_all(length):
    """The least number of stands on the whole path, and the first place to begin at."""
    check_going_length(length)
    if length == 1:
        return (0, None)
    known = {}
    further = 0
    while True:
        further += 1
        for place in range(1, length + 1):
            if stands_are_enough(length, (1, length), place, further, known):
                return (further + 1, place)


def least_steps(stretch, place):
    """The least number of steps by which one surely finds the thing."""
    low, high = stretch
    # A move at once tells no more than where the thing lies beside its middle. The
    # same way gone place by place takes as many steps and tells this too, as each
    # single step tells on which side of it the thing lies. So single steps do: one
    # goes towards the thing and on to the end of the stretch, at the worst.
    if low == high:
        return 0
    if place <= low:
        return high - place
    if place >= high:
        return place - low
    # From inside of the stretch a first step to the wrong side is gone back again.
    upward_first = max(high - place, place - low + 2)
    downward_first = max(place - low, high - place + 2)
    return min(upward_first, downward_first)


def steps_by(stretch, place, onward):
    """The least number of steps where one goes on to this place first."""
    parts = parts_of(stretch, place, onward)
    return abs(onward - place) + max([least_steps(part, onward) for part in parts])


def steps_from(length, stretch, place):
    """The least number of steps, and the first other place to go on to."""
    check_going_length(length)
    check_stretch(stretch, length)
    check_place(place, length)
    least = least_steps(stretch, place)
    if least == 0:
        return (0, None)
    fit = [onward for onward in other_places(length, place) if steps_by(stretch, place, onward) == least]
    return (least, fit[0])
