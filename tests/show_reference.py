"""Points [11] to [13] made as plain as can be, slow and apart from the program, and shows to try."""

NAMES = ["arm", "bow", "cap", "dirk", "ewer", "fan", "gown", "helm", "icon", "jug", "knot", "lute"]
SHOW_NAMES = ["zeal", "april", "may", "june", "mid", "noon", "old", "peak"]


def all_pairs(shows):
    """Each day of each show, in order."""
    return sorted((day, show[0]) for show in shows for day in range(show[1], show[2] + 1))


def show_called(shows, name):
    return [show for show in shows if show[0] == name][0]


def away(leaves, name, day):
    for first, last in leaves.get(name, []):
        if first <= day <= last:
            return True
    return False


def is_dealing(shows, lights, leaves, rows):
    """Point [12], one condition behind the other."""
    if [row[:2] for row in rows] != all_pairs(shows):
        return False
    for day, show, names in rows:
        size, named = show_called(shows, show)[3:]
        if names != sorted(names) or len(names) != len(set(names)) or len(names) > size:
            return False
        for name in names:
            if name not in named or away(leaves, name, day):
                return False
    stands = [(day, name) for day, show, names in rows for name in names]
    if len(stands) != len(set(stands)):
        return False
    for thing in {name for day, name in stands}:
        if len([name for day, name in stands if name == thing]) > lights[thing]:
            return False
    return True


def names_in_all(rows):
    return sum(len(names) for day, show, names in rows)


def bound_of(shows, lights, leaves, pairs):
    """The number that point [13] reckons from the pairs."""
    total = sum(show[3] * (show[2] - show[1] + 1) for show in shows)
    total -= sum(show_called(shows, name)[3] for day, name in pairs)
    for thing in lights:
        days = {
            day for day, name in pairs
            if thing in show_called(shows, name)[4] and not away(leaves, thing, day)
        }
        total += min(lights[thing], len(days))
    return total


def is_shown_full(shows, lights, leaves, rows, pairs):
    if not is_dealing(shows, lights, leaves, rows):
        return False
    known = all_pairs(shows)
    for at, pair in enumerate(pairs):
        if pair not in known or (at > 0 and pairs[at - 1] >= pair):
            return False
    return names_in_all(rows) == bound_of(shows, lights, leaves, pairs)


def most_names(shows, lights, leaves):
    """The names of a fullest dealing, all choices gone through; for a few things and days alone."""
    known = all_pairs(shows)
    memory = {}

    def best(at, today, left):
        if at == len(known):
            return 0
        day, show = known[at]
        if at > 0 and known[at - 1][0] != day:
            today = frozenset()
        key = (at, today, left)
        if key not in memory:
            memory[key] = max(tries(at, today, dict(left), day, show))
        return memory[key]

    def tries(at, today, left, day, show):
        size, named = show_called(shows, show)[3:]
        free = [name for name in named if left[name] > 0 and name not in today and not away(leaves, name, day)]
        for choice in choices(free, size):
            after = tuple(sorted((name, left[name] - (name in choice)) for name in left))
            yield len(choice) + best(at + 1, today | frozenset(choice), after)

    return best(0, frozenset(), tuple(sorted(lights.items())))


def choices(names, size):
    """All choices of at most so many of the names."""
    if not names or size == 0:
        return [[]]
    rest = choices(names[1:], size)
    return rest + [[names[0]] + choice for choice in choices(names[1:], size - 1)]


def some_show(source, name, things, most_days, most_size, spread):
    first = source.randint(0, spread)
    last = first + source.randint(1, most_days) - 1
    named = tuple(source.sample(things, source.randint(0, len(things))))
    return (name, first, last, source.randint(1, most_size), named)


def some_leaves(source, things, spread):
    leaves = {}
    for thing in things:
        if source.random() < 0.5:
            starts = [source.randint(0, spread) for turn in range(source.randint(0, 3))]
            leaves[thing] = [(first, first + source.randint(0, 3)) for first in starts]
    return leaves


def some_shows(source, many_shows=3, many_things=4, most_days=3, most_size=3, spread=2, most_light=4):
    """Shows in any order, lights and leaves."""
    things = NAMES[:many_things]
    names = source.sample(SHOW_NAMES, many_shows)
    shows = [some_show(source, name, things, most_days, most_size, spread) for name in names]
    lights = {thing: source.randint(0, most_light) for thing in source.sample(things, many_things)}
    return shows, lights, some_leaves(source, things + ["other"], spread + most_days)
