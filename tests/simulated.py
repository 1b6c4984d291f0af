"""Traffic that is simulated trip by trip, and random traffic, for comparison with the package.

Nothing here uses the package but the class Town: routes are found by trying them all.
"""

from wornbridges.towns import Town


def tried_routes(town, lives, one, other, load):
    """Return the list of all (length, route) between two places that come to no place twice."""
    found = []
    ways = [(0, (), [one])]
    while ways:
        length, route, places = ways.pop()
        if places[-1] == other:
            found.append((length, route))
            continue
        for bridge, (start, end, further, _) in enumerate(town.bridges):
            if lives[bridge] >= load and places[-1] in (start, end):
                beyond = end if places[-1] == start else start
                if beyond not in places:
                    ways.append((length + further, route + (bridge,), places + [beyond]))
    return found


def tried_route(town, lives, trip):
    """Return the route of a trip, or None if it fails."""
    return min(tried_routes(town, lives, *trip), default=(0, None))[1]


class Simulated:
    """The first trips of traffic with changes, until nothing changes any more, and some rounds further.

    `routes` and `lives` are lists: the route of trip number t is routes[t - 1], and lives[t] are the
    lives after t trips and the changes made then.
    """

    def __init__(self, town, trips, changes, further=60):
        self.town = town
        self.trips = trips
        self.changes = changes
        self.routes = []
        self.lives = [self.changed(list(town.lives), 0)]
        self.known = {}
        quiet = 0
        while quiet < len(trips) + further:
            self.make_trip()
            wears = bool(self.routes[-1])
            early = len(self.routes) <= max([change[1] for change in changes], default=0)
            quiet = 0 if wears or early else quiet + 1

    def changed(self, lives, position):
        for change in self.changes:
            if change[1] == position:
                lives[change[2]] = 0 if change[0] == "close" else lives[change[2]] + change[3]
        return lives

    def make_trip(self):
        trip = self.trips[len(self.routes) % len(self.trips)]
        lives = list(self.lives[-1])
        key = (trip, tuple([life >= trip[2] for life in lives]))
        if key not in self.known:
            self.known[key] = tried_route(self.town, lives, trip)
        route = self.known[key]
        for bridge in route or ():
            lives[bridge] -= trip[2]
        self.routes.append(route)
        self.lives.append(self.changed(lives, len(self.routes)))

    @property
    def count(self):
        """The number of trips that have been simulated."""
        return len(self.routes)

    def bearing(self, count):
        """Return which bridges bear which load of the round after a number of trips."""
        return [[life >= trip[2] for trip in self.trips] for life in self.lives[count]]

    def phases(self):
        """Return the phases, as Traffic.phases yields them, and those after the last change of anything as one."""
        starts = [0]
        positions = [change[1] for change in self.changes]
        for count in range(1, self.count):
            if count in positions or self.bearing(count) != self.bearing(count - 1):
                starts.append(count)
        found = []
        for start, end in zip(starts, [*starts[1:], None]):
            routes = tuple([tried_route(self.town, self.lives[start], trip) for trip in self.trips])
            found.append((start + 1, end, routes))
        return found

    def numbers_where(self, test):
        """Return the numbers of the trips with a route that passes a test."""
        return [number for number, route in enumerate(self.routes, 1) if test(route)]


def simulated_difference(one, other):
    """Return the number of the first trip that differs in two simulations, or None."""
    count = max(one.count, other.count)
    for simulated in (one, other):
        while simulated.count < count:
            simulated.make_trip()
    for number in range(1, count + 1):
        if one.routes[number - 1] != other.routes[number - 1]:
            return number
    return None


def random_town(chance, places=5, bridges=7, life=30):
    """Return a small random town."""
    count = chance.randint(2, places)
    rows = []
    for _ in range(chance.randint(0, bridges)):
        one, other = chance.sample(range(count), 2)
        rows.append((one, other, chance.randint(1, 4), chance.randint(0, life)))
    return Town(count, tuple(rows))


def far_town(chance):
    """Return a random town with great lives and some small ones."""
    town = random_town(chance, places=6, bridges=10)
    bridges = []
    for bridge in town.bridges:
        life = chance.choice([chance.randint(0, 50), chance.randint(0, 10 ** 18), 10 ** 18])
        bridges.append((*bridge[:3], life))
    return Town(town.place_count, tuple(bridges))


def random_trips(chance, town, most=8):
    """Return a random round of a town; often several loads are the same."""
    loads = [chance.randint(1, 9) for _ in range(chance.randint(1, 3))]
    places = range(town.place_count)
    number = chance.randint(1, most)
    return tuple([(chance.choice(places), chance.choice(places), chance.choice(loads)) for _ in range(number)])


def random_changes(chance, town, most=4, last=40, amount=30):
    """Return a list of random changes, by position; some at the same one."""
    if not town.bridges:
        return []
    positions = sorted([chance.randint(0, last) for _ in range(chance.randint(0, most))])
    changes = []
    for position in positions:
        position = changes[-1][1] if changes and chance.random() < 0.2 else position
        bridge = chance.randrange(len(town.bridges))
        if chance.random() < 0.4:
            changes.append(("close", position, bridge))
        else:
            changes.append(("mend", position, bridge, chance.randint(1, amount)))
    return changes


def make_changes(traffic, changes):
    """Make changes in traffic, one after another, and go back to position 0."""
    for change in changes:
        traffic.go_to(change[1])
        if change[0] == "close":
            traffic.close(change[2])
        else:
            traffic.mend(change[2], change[3])
    traffic.go_to(0)
