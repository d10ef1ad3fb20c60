"""Where a thing was by its told story, and where it wore."""

from vitrine.tales import DAY, GRADE, THERE, believed_chain, is_gap, neighbours, told_story

UNKNOWN = ""


def told_chain(home, papers, prices):
    """The home and the papers that the told story believes."""
    return believed_chain(home, papers, told_story(home, papers, prices))


def pieces_between(first, second):
    """The stays on the days from the first one's on and ahead of the second one's."""
    day = first[DAY]
    last = second[DAY] - 1
    known = min(day, last) if is_gap(first, second) else last
    pieces = [(day, known, first[THERE]), (known + 1, last, UNKNOWN)]
    # Where there is no gap, or the two days follow one another, the second piece has no day.
    return [piece for piece in pieces if piece[0] <= piece[1]]


def joined(pieces):
    """The pieces, where those that follow one another with one place are made one."""
    whole = []
    for first, last, place in pieces:
        if whole and whole[-1][2] == place:
            whole[-1] = (whole[-1][0], last, place)
        else:
            whole.append((first, last, place))
    return whole


def stays(home, papers, prices):
    """The thing's stays, as tuples (first, last, place)."""
    chain = told_chain(home, papers, prices)
    pieces = []
    for first, second in neighbours(chain):
        pieces.extend(pieces_between(first, second))
    pieces.append((chain[-1][DAY], None, chain[-1][THERE]))
    return joined(pieces)


def where(home, papers, prices, day):
    """The place where the thing is on the day, or the empty text."""
    for first, last, place in stays(home, papers, prices):
        if first <= day and (last is None or day <= last):
            return place
    return UNKNOWN


def change_between(first, second):
    """The change from the first to the second, as a tuple (place, first, last, by)."""
    place = UNKNOWN if is_gap(first, second) else first[THERE]
    return (place, first[DAY], second[DAY], second[GRADE] - first[GRADE])


def changes(home, papers, prices):
    """The changes of the thing's grade, in order of days."""
    return [
        change_between(first, second)
        for first, second in neighbours(told_chain(home, papers, prices))
        if first[GRADE] != second[GRADE]
    ]
