"""GATES: by whom all that a MEMBER hears must come, and who holds what another one holds (section 7)."""

from whomheeds.basics import askers_in, asks, firm_in, frozen, is_firm, put_at, reach_of, refuse, shut_among
from whomheeds.councils import is_road
from whomheeds.flows import road_taken, side_by_side


def gates(council, member):
    """The tuple of the GATES of the MEMBER in their order, itself first."""
    council = frozen(council)
    refuse(council, (member,))
    return gates_by(gate_table(council), member)


def gate_table(council):
    """For each MEMBER a dict of those of which it is a GATE."""
    return [kept_by(council, gate) for gate in range(len(council))]


def kept_by(council, gate):
    """A dict of the MEMBERS of which this one is a GATE: they reach no firm one if nobody comes past it."""
    return shut_among(put_at(council, gate, ()), askers_in(put_at(council, gate, ())))


def gates_by(table, member):
    """The tuple of the GATES of the MEMBER in their order.

    Of whomever one of them is a GATE, those behind it are, too: so each next one keeps more.
    """
    found = [(len(kept), gate) for gate, kept in enumerate(table) if member in kept]
    return tuple([gate for _, gate in sorted(found)])


def is_gate(council, member, other):
    """Whether other is a GATE of member."""
    council = frozen(council)
    refuse(council, (member, other))
    return member in kept_by(council, other)


def next_gate(council, member):
    """The second GATE of the MEMBER; None if it has just one."""
    found = gates(council, member)
    return found[1] if len(found) > 1 else None


def leader(council, member):
    """The last GATE of the MEMBER."""
    return gates(council, member)[-1]


def led_by(council, member):
    """The set of the MEMBERS of which this one is a GATE."""
    council = frozen(council)
    refuse(council, (member,))
    return tuple(sorted(kept_by(council, member)))


def common_gates(council, some):
    """The tuple of those that are GATES of each of some, in their order."""
    council, some = frozen((council, some))
    refuse(council, some)
    return gates_of_all(council, some)


def gates_of_all(council, some):
    """As common_gates, nothing refused."""
    table = gate_table(council)
    return tuple([gate for gate in gates_by(table, some[0]) if all([member in table[gate] for member in some])])


def lots_by_leader(council):
    """The set of the sets of MEMBERS that have one leader."""
    council = frozen(council)
    refuse(council)
    return lots_of_one(leaders(council))


def leaders(council):
    """For each MEMBER its last GATE."""
    table = gate_table(council)
    return [gates_by(table, member)[-1] for member in range(len(council))]


def lots_of_one(row):
    """The set of the sets of the places in the row that have one and the same part."""
    return tuple(sorted(set([tuple([at for at, other in enumerate(row) if other == part]) for part in row])))


def alike_always(council, one, other):
    """Whether both hold the same FOR ALL WEIGHTS and whatever numbers the firm ones hold."""
    council = frozen(council)
    refuse(council, (one, other))
    return gates_of_all(council, (one, other)) != ()


def alike(council, one, other):
    """Whether both hold the same FOR ALL WEIGHTS, the firm ones holding what they hold."""
    council = frozen(council)
    refuse(council, (one, other))
    return gates_of_all(gathered(council), (one, other)) != ()


def gathered(council):
    """The COUNCIL in which firm ones that hold one number all ask a new one, behind all, that holds it alone."""
    numbers = sorted(set([council[firm] for firm in firm_in(council)]))
    places = {number: len(council) + at for at, number in enumerate(numbers)}
    return tuple([(places[part],) if isinstance(part, int) else part for part in council] + numbers)


def lots_alike(council):
    """The set of the sets of MEMBERS, as great as can be, any two of which are alike."""
    council = frozen(council)
    refuse(council)
    return lots_of_one(leaders(gathered(council))[:len(council)])


def apart_roads(council, one, other):
    """A pair of ROADS from both to two firm ones, without a MEMBER in common; None if there is none."""
    council = frozen(council)
    refuse(council, (one, other))
    return two_roads(council, one, other)


def unlike_roads(council, one, other):
    """Likewise, to firm ones that hold unlike numbers."""
    council = frozen(council)
    refuse(council, (one, other))
    found = two_roads(gathered(council), one, other)
    # Each comes to a number at last, which is no MEMBER.
    return None if found is None else (found[0][:-1], found[1][:-1])


def two_roads(council, one, other):
    """As apart_roads, nothing refused."""
    asked = [asks(council, member) for member in range(len(council))]
    left, led = side_by_side(asked, firm_in(council), (one, other))
    return None if len(led) < 2 else (road_taken(asked, left, one), road_taken(asked, left, other))


def is_apart_roads(council, one, other, thing):
    """Whether thing is a pair of ROADS as apart_roads tells."""
    council = frozen(council)
    refuse(council, (one, other))
    return are_apart(council, one, other, thing)


def are_apart(council, one, other, thing):
    """As is_apart_roads, nothing refused."""
    if not isinstance(thing, tuple) or len(thing) != 2:
        return False
    if not all([is_road(council, road) for road in thing]):
        return False
    if (thing[0][0], thing[1][0]) != (one, other) or any([member in thing[1] for member in thing[0]]):
        return False
    return all([is_firm(council, road[-1]) for road in thing])


def is_unlike_roads(council, one, other, thing):
    """Whether thing is a pair of ROADS as unlike_roads tells."""
    council = frozen(council)
    refuse(council, (one, other))
    return are_apart(council, one, other, thing) and council[thing[0][-1]] != council[thing[1][-1]]


def parting_arcs(council, one, other):
    """The set of the arcs, not there, by each of which both would be alike always no more.

    Such an arc leads past each common GATE: from somebody whom one of both reaches without it to somebody who
    reaches a firm one without it.
    """
    council = frozen(council)
    refuse(council, (one, other))
    common = gates_of_all(council, (one, other))
    if common == ():
        return ()
    starts = goals = list(range(len(council)))
    for gate in common:
        past = put_at(council, gate, ())
        near = [number for start in (one, other) for number in reach_of(past, start) if gate not in (start, number)]
        kept = kept_by(council, gate)
        starts = [number for number in starts if number in near]
        goals = [number for number in goals if number not in kept]
    return tuple([(asker, goal) for asker in starts for goal in goals])
