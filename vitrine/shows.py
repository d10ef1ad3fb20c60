"""How shows are filled as full as can be, and whether a dealing is one, and a full one.

A spot is a pair (day, show): one day of one show.
"""


def on_leave(leaves, thing, day):
    """Whether the thing may not be shown on that day."""
    return any([first <= day <= last for first, last in leaves.get(thing, [])])


def room_by_spot(shows):
    """The room of each spot."""
    return {(day, name): size for name, first, last, size, things in shows for day in range(first, last + 1)}


def able_by_spot(shows, leaves):
    """The things of each spot that its show names and that are not on leave then."""
    return {
        (day, name): [thing for thing in things if not on_leave(leaves, thing, day)]
        for name, first, last, size, things in shows
        for day in range(first, last + 1)
    }


class Filling:
    """A dealing in the making. It gains one name at a time, and a spot never loses one but for another."""

    def __init__(self, shows, lights, leaves):
        self.room = room_by_spot(shows)
        self.able = able_by_spot(shows, leaves)
        self.left = dict(lights)
        # For each thing the show in which it stands, by days.
        self.stands = {thing: {} for thing in lights}
        # The spots that can't gain a name any more, whatever is dealt elsewhere.
        self.shut = {}

    def free_thing(self, spot):
        """A thing that can come to the spot without being taken from another, or None."""
        day, show = spot
        for thing in self.able[spot]:
            if self.left[thing] > 0 and day not in self.stands[thing]:
                return thing
        return None

    def givers(self, spot, thing, asked):
        """The spots each of which would have to give the thing away for this one to have it."""
        day, show = spot
        days = self.stands[thing]
        if day in days:
            return [(day, days[day])]
        # On a day on which it stands nowhere it can be had from all its spots, so to ask once is enough.
        if thing in asked:
            return []
        asked[thing] = True
        return list(days.items())

    def reach(self, start):
        """The nearest spot that can have a free thing, and the ways to the spots that were reached.

        A way is a pair (taker, thing): that spot would take the thing from the one reached. Where there is no
        such spot, None is told for it, and the ways are to all spots that can be reached.
        """
        ways = {start: None}
        queue = [start]
        asked = {}
        at = 0
        while at < len(queue):
            spot = queue[at]
            at += 1
            if self.free_thing(spot) is not None:
                return (spot, ways)
            for thing in self.able[spot]:
                for giver in self.givers(spot, thing, asked):
                    if giver not in ways and giver not in self.shut:
                        ways[giver] = (spot, thing)
                        queue.append(giver)
        return (None, ways)

    def put(self, thing, spot):
        """Lets the thing stand there."""
        day, show = spot
        self.stands[thing][day] = show

    def take(self, thing, spot):
        """Lets the thing stand there no more."""
        day, show = spot
        del self.stands[thing][day]

    def hand_on(self, spot, ways):
        """Gives the spot a free thing, and what it gives away for it to its taker, and so on back to the start."""
        thing = self.free_thing(spot)
        self.left[thing] -= 1
        self.put(thing, spot)
        while ways[spot] is not None:
            taker, given = ways[spot]
            # Taken first, for the taker may have it on the same day.
            self.take(given, spot)
            self.put(given, taker)
            spot = taker

    def gain(self, start):
        """Whether the dealing could gain a name by the room of that spot; it has it then."""
        spot, ways = self.reach(start)
        if spot is None:
            # No later gain can come by these spots, and so none can open them again.
            self.shut.update({shut: True for shut in ways})
            return False
        self.hand_on(spot, ways)
        self.room[start] -= 1
        return True

    def fill(self):
        """Gains names as long as there are any to gain."""
        for spot in sorted(self.room):
            while self.room[spot] > 0 and spot not in self.shut and self.gain(spot):
                pass

    def dealing(self):
        """The rows (day, show, names) of what is dealt."""
        names = {spot: [] for spot in sorted(self.room)}
        for thing in sorted(self.stands):
            for spot in self.stands[thing].items():
                names[spot].append(thing)
        return [(day, show, names[(day, show)]) for day, show in names]


def filled(shows, lights, leaves):
    """A fullest dealing, and the pairs (day, show) that show that none is fuller."""
    filling = Filling(shows, lights, leaves)
    filling.fill()
    return (filling.dealing(), sorted(filling.shut))


def rightly_named(names, room, able):
    """Whether the names may stand at a spot that has this room and is open to these things."""
    return names == sorted(set(names)) and len(names) <= room and all([name in able for name in names])


def shown_days(rows):
    """For each thing that stands in the rows its days there, one for each time."""
    days = {}
    for day, show, names in rows:
        for name in names:
            days.setdefault(name, []).append(day)
    return days


def good_dealing(shows, lights, leaves, rows):
    """Whether the rows are a dealing."""
    room = room_by_spot(shows)
    able = able_by_spot(shows, leaves)
    if [(day, show) for day, show, names in rows] != sorted(room):
        return False
    if not all([rightly_named(names, room[(day, show)], able[(day, show)]) for day, show, names in rows]):
        return False
    return all([
        len(set(days)) == len(days) and len(days) <= lights[thing]
        for thing, days in shown_days(rows).items()
    ])


def most_names(shows, lights, leaves, pairs):
    """What no dealing has more names than: the room of the other spots, and what these pairs can have at all."""
    room = room_by_spot(shows)
    able = able_by_spot(shows, leaves)
    most = sum(room.values()) - sum([room[pair] for pair in pairs])
    for thing in lights:
        days = len({day for day, show in pairs if thing in able[(day, show)]})
        most += min(max(lights[thing], 0), days)
    return most


def shown_full(shows, lights, leaves, rows, pairs):
    """Whether the rows are a dealing, and the pairs show that none is fuller."""
    if not good_dealing(shows, lights, leaves, rows):
        return False
    room = room_by_spot(shows)
    if pairs != sorted(set(pairs)) or not all([pair in room for pair in pairs]):
        return False
    return sum([len(names) for day, show, names in rows]) == most_names(shows, lights, leaves, pairs)
