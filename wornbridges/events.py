"""Events: everything that happens in traffic, one thing after another."""

from wornbridges.checks import check_count
from wornbridges.phases import worn_lives
from wornbridges.routes import route_length


def _worn_events(trips, phase):
    """Return the list of the events that the wear of the last trip of a phase causes."""
    loads = sorted({trip[2] for trip in trips})
    found = []
    for bridge, life in enumerate(worn_lives(trips, phase, phase.last)):
        # During the phase, each bridge bears the loads that it bears at its beginning.
        for load in loads:
            if life < load <= phase.start_lives[bridge]:
                found.append((phase.last, "worn", bridge, load))
    return found


def _change_events(changes, position):
    """Return the list of the events of the changes at a position."""
    return [(position, change[0]) + change[2:] for change in changes if change[1] == position]


def _route_events(town, phase, following):
    """Return the list of the events of the kinds of which the routes differ in a phase and the following one."""
    found = []
    for kind, (old, new) in enumerate(zip(phase.kind_routes, following.kind_routes)):
        if old != new:
            if new is None:
                found.append((phase.last, "lost", kind))
            elif old is None:
                found.append((phase.last, "found", kind))
            else:
                found.append((phase.last, "detour", kind, route_length(town, old), route_length(town, new)))
    return found


def events(traffic, last):
    """Yield everything that happens until after a number of trips, as tuples."""
    check_count(last)
    changes = traffic.changes
    parts = traffic.moment.course.all_phases()
    found = _change_events(changes, 0)
    for phase, following in zip(parts, parts[1:]):
        if phase.last <= last:
            found.extend(_worn_events(traffic.trips, phase))
            found.extend(_change_events(changes, phase.last))
            found.extend(_route_events(traffic.town, phase, following))
    yield from found
