"""What can lie in one case: dampnesses that suit, and things that clash."""

from vitrine.bounds import LEAST_DAMP, MOST_DAMP


def apart(one, other):
    """Whether no dampness suits both ranges."""
    return max(one[0], other[0]) > min(one[1], other[1])


def common(ranges):
    """What the ranges have in common, or the first two that have nothing in common."""
    for one in range(len(ranges)):
        for other in range(one + 1, len(ranges)):
            if apart(ranges[one], ranges[other]):
                return ("never", one, other)
    # Ranges any two of which have a dampness in common have one in common all together.
    low = max([pair[0] for pair in ranges], default=LEAST_DAMP)
    high = min([pair[1] for pair in ranges], default=MOST_DAMP)
    return ("all", low, high)


def settings(ranges):
    """The fewest dampnesses that suit all ranges, and places of as many ranges that are apart."""
    by_end = sorted([(pair[1], at) for at, pair in enumerate(ranges)])
    dampnesses = []
    places = []
    # The range that ends first has to be suited, and its end suits whatever else can be suited with it.
    for high, at in by_end:
        if not dampnesses or ranges[at][0] > dampnesses[-1]:
            dampnesses.append(high)
            places.append(at)
    return (dampnesses, sorted(places))


def barred(one, other, bars):
    """Whether the two kinds are barred, in either order."""
    return (one, other) in bars or (other, one) in bars


def clashes(things, bars):
    """The ways in which two of the things clash, as tuples (name, other, word)."""
    rising = sorted(things)
    found = []
    for at, (name, kind, low, high) in enumerate(rising):
        for other, other_kind, other_low, other_high in rising[at + 1:]:
            if apart((low, high), (other_low, other_high)):
                found.append((name, other, "damp"))
            if barred(kind, other_kind, bars):
                found.append((name, other, "kind"))
    return found
