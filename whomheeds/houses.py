"""HOUSES, whose DOORS stand for members outside, and what holds of them FOR ALL OUTSIDES (section 15)."""

from whomheeds.basics import arcs, are_tuples, ends_reached, firm_in, frozen, is_firm, is_number, is_set_of_numbers
from whomheeds.basics import lost_ones, refuse_members
from whomheeds.councils import is_council, less_arc
from whomheeds.errors import Unfit
from whomheeds.follows import all_ends
from whomheeds.sums import least_wish


def is_house(thing):
    """Whether thing is a HOUSE, of however many DOORS, SEEN ones and FOLLOWINGS."""
    if not isinstance(thing, tuple) or len(thing) != 3:
        return False
    council, doors, seen = thing
    if not is_council(council) or lost_ones(council) or not is_set_of_numbers(doors) or not is_set_of_numbers(seen):
        return False
    inside = range(len(council))
    if not all([door in inside and is_firm(council, door) for door in doors]):
        return False
    return all([member in inside and member not in doors for member in seen])


def own_ones(house):
    """The set of the OWN ones."""
    council, doors, _ = house
    return tuple([firm for firm in firm_in(council) if firm not in doors])


def letter(house):
    """The LETTER of the HOUSE."""
    house = frozen(house)
    return (len(house[1]), len(own_ones(house)), letter_ends(house))


def letter_ends(house):
    """The set of what FOLLOWINGS tell of the SEEN ones."""
    council, doors, seen = house
    told = {firm: ("own", place) for place, firm in enumerate(own_ones(house))}
    for place, door in enumerate(doors):
        told[door] = ("door", place)
    return tuple(sorted(set([tuple([told[ends[member]] for member in seen]) for ends in all_ends(council)])))


def places_joined(one, other, links):
    """A pair of tuples: for each MEMBER of one, of other, its number in both joined.

    Those of one come first; a linked DOOR has the number of the SEEN one that it stands for.
    """
    houses = (one, other)
    places = [{}, {}]
    many = 0
    for side in (0, 1):
        linked = linked_doors(houses, links, side)
        for member in range(len(houses[side][0])):
            if member not in linked:
                places[side][member] = many
                many += 1
    for side, door, seen in links:
        places[side][houses[side][1][door]] = places[1 - side][houses[1 - side][2][seen]]
    return tuple([tuple([told for _, told in sorted(part.items())]) for part in places])


def linked_doors(houses, links, side):
    """The numbers of the DOORS of this one of both houses that are linked."""
    return [houses[side][1][door] for at, door, _ in links if at == side]


def members_joined(one, other, links):
    """The COUNCIL of both joined, sound or not."""
    places = places_joined(one, other, links)
    found = []
    for side, house in enumerate((one, other)):
        linked = linked_doors((one, other), links, side)
        for member, part in enumerate(house[0]):
            if isinstance(part, tuple):
                # Who asks two that stand for one asks it once.
                found.append(tuple(sorted(set([places[side][goal] for goal in part]))))
            elif member not in linked:
                found.append(part)
    return tuple(found)


def border_links(house, outside):
    """The LINKS of all DOORS to the SEEN ones with the same place; refuses both if they do not fit."""
    if len(house[1]) != len(outside[2]) or len(outside[1]) != len(house[2]):
        raise Unfit()
    return [(side, at, at) for side, part in enumerate((house, outside)) for at in range(len(part[1]))]


def put_together(house, outside):
    """The COUNCIL of both put together."""
    house, outside = frozen((house, outside))
    return members_joined(house, outside, border_links(house, outside))


def places_there(house, outside):
    """A pair of tuples: for each MEMBER of the HOUSE, of the OUTSIDE, its number in both put together."""
    house, outside = frozen((house, outside))
    return places_joined(house, outside, border_links(house, outside))


def wish_there(house, outside, wish):
    """The WISH of both put together that the BORDER WISH is."""
    house, outside, wish = frozen((house, outside, wish))
    named = [told for member, firm, _ in wish for told in (member, firm)]
    refuse_members(outside[0], [number for word, number in named if word == "out"])
    return border_wish_there(house, outside, wish)


def border_wish_there(house, outside, wish):
    """As wish_there, of tuples, no number refused."""
    inner, outer = places_joined(house, outside, border_links(house, outside))
    seen = [inner[member] for member in house[2]]
    own = [inner[firm] for firm in own_ones(house)]
    return tuple([(outer[at] if word == "out" else seen[at], outer[place] if kind == "out" else own[place], number)
                  for (word, at), (kind, place), number in wish])


def is_border_wish(house, outside, thing):
    """Whether thing is a BORDER WISH of the HOUSE and the OUTSIDE."""
    if not are_tuples(thing, 3) or not all([is_number(number) for _, _, number in thing]):
        return False
    inside = [("seen", place) for place in range(len(house[2]))]
    own = [("own", place) for place in range(len(own_ones(house)))]
    outer = [("out", number) for number in range(len(outside[0])) if number not in outside[1]]
    outer_own = [("out", number) for number in own_ones(outside)]
    return all([is_told(member, inside + outer) and is_told(firm, own + outer_own) for member, firm, _ in thing])


def is_told(thing, pairs):
    """Whether thing is one of these pairs of a word and a number."""
    # For Python ("own", True) == ("own", 1).
    return isinstance(thing, tuple) and len(thing) == 2 and is_number(thing[1]) and thing in pairs


def refuse_borders(one, other):
    """Raises Unfit if both are not of one border."""
    if [len(part) for part in (one[1], one[2], own_ones(one))] != [len(part) for part in
                                                                   (other[1], other[2], own_ones(other))]:
        raise Unfit()


def ends_beyond(one, other):
    """The list of the ends in the LETTER of one that are not in that of other."""
    known = letter_ends(other)
    return [ends for ends in letter_ends(one) if ends not in known]


def lets_no_more_outside(one, other):
    """Whether FOR ALL OUTSIDES with which both are sound each BORDER WISH that holds with other holds with one."""
    one, other = frozen((one, other))
    refuse_borders(one, other)
    return ends_beyond(one, other) == []


def alike_outside(one, other):
    """Whether just the same ones hold."""
    one, other = frozen((one, other))
    refuse_borders(one, other)
    return letter_ends(one) == letter_ends(other)


def parting_outside(one, other):
    """A pair (outside, wish): both are sound with it, and the BORDER WISH holds with other, not with one; or None."""
    one, other = frozen((one, other))
    refuse_borders(one, other)
    beyond = ends_beyond(one, other)
    if not beyond:
        return None
    doors, seen = len(one[1]), len(one[2])
    # All outside are firm; who ends at a DOOR of the HOUSE ends at the one with this place behind the first ones.
    outside = ((0,) * (seen + doors + 1), tuple(range(seen)), tuple(range(seen, seen + doors)))
    last = ("out", seen + doors)
    # Below 0 exactly if all SEEN ones end where these ends say.
    wish = [(("seen", place), ("out", seen + at) if word == "door" else (word, at), -1)
            for place, (word, at) in enumerate(beyond[0])]
    return (outside, tuple(wish) + ((last, last, seen - 1),))


def is_parting_outside(one, other, thing):
    """Whether thing is such a pair."""
    one, other = frozen((one, other))
    refuse_borders(one, other)
    if not isinstance(thing, tuple) or len(thing) != 2 or not fits_in(one, thing[0]):
        return False
    outside, wish = thing
    if not is_border_wish(one, outside, wish):
        return False
    if not is_sound_with(one, outside) or not is_sound_with(other, outside):
        return False
    return least_there(other, outside, wish) >= 0 and least_there(one, outside, wish) < 0


def fits_in(house, thing):
    """Whether thing is an OUTSIDE of the HOUSE."""
    return is_house(thing) and len(thing[1]) == len(house[2]) and len(thing[2]) == len(house[1])


def is_sound_with(house, outside):
    return lost_ones(members_joined(house, outside, border_links(house, outside))) == ()


def least_there(house, outside, wish):
    """The least value of the BORDER WISH by the ENDS of all FOLLOWINGS of both put together."""
    council = members_joined(house, outside, border_links(house, outside))
    return least_wish(council, border_wish_there(house, outside, wish))


def shut_seen(house):
    """The places of the SEEN ones that reach no OWN one."""
    own = own_ones(house)
    return [place for place, member in enumerate(house[2])
            if not any([firm in own for firm in ends_reached(house[0], member)])]


def is_safe(house):
    """Whether the HOUSE is sound with ALL OUTSIDES."""
    return shut_seen(frozen(house)) == []


def losing_outside(house):
    """An OUTSIDE with which it is not sound; None if there is none."""
    house = frozen(house)
    shut = shut_seen(house)
    if not shut:
        return None
    doors, seen = len(house[1]), len(house[2])
    # All that the HOUSE asks outside ask this SEEN one back.
    council = (0,) * seen + ((shut[0],),) * doors
    return (council, tuple(range(seen)), tuple(range(seen, seen + doors)))


def is_losing(house, thing):
    """Whether thing is such an OUTSIDE."""
    house = frozen(house)
    return fits_in(house, thing) and not is_sound_with(house, thing)


def ends_of_both(house, one, other):
    """The set of the pairs of firm ones at which both SEEN ones end; refuses numbers of others."""
    council, _, seen = house
    refuse_members(council, (one, other))
    if one not in seen or other not in seen:
        raise Unfit()
    return sorted(set([(ends[one], ends[other]) for ends in all_ends(council)]))


def seen_alike(house, one, other):
    """Whether, FOR ALL OUTSIDES with which it is sound and FOR ALL WEIGHTS, both hold the same."""
    house = frozen(house)
    return all([is_above(house, first, second) and is_above(house, second, first)
                for first, second in ends_of_both(house, one, other)])


def seen_above(house, one, other):
    """Whether, FOR ALL OUTSIDES with which it is sound and FOR ALL WEIGHTS, one holds at least as much as other."""
    house = frozen(house)
    return all([is_above(house, first, second) for first, second in ends_of_both(house, one, other)])


def is_above(house, first, second):
    """Whether this firm one holds at least as much as that one, whoever stands for DOORS."""
    council, doors, _ = house
    return first == second or (first not in doors and second not in doors and council[first] >= council[second])


def needless_inside(house):
    """The ascending list of the arcs without each of which it is a HOUSE of the same LETTER."""
    council, doors, seen = frozen(house)
    ends = letter_ends((council, doors, seen))
    found = []
    for arc in arcs(council):
        narrow = less_arc(council, arc)
        # An asker that asks nobody any more is lost, too.
        if lost_ones(narrow) == () and letter_ends((narrow, doors, seen)) == ends:
            found.append(arc)
    return found


def joined_houses(one, other, links):
    """The HOUSE of the MEMBERS of both, but the linked DOORS."""
    one, other, links = frozen((one, other, links))
    council = members_joined(one, other, links)
    if lost_ones(council) != ():
        raise Unfit()
    places = places_joined(one, other, links)
    doors, seen = [], []
    for side, house in enumerate((one, other)):
        linked = linked_doors((one, other), links, side)
        doors.extend([places[side][door] for door in house[1] if door not in linked])
        seen.extend([places[side][member] for member in house[2]])
    return (council, tuple(doors), tuple(seen))


def joined_letters(one, other, links):
    """The LETTER of two HOUSES with these LETTERS joined."""
    one, other, links = frozen((one, other, links))
    leads = leads_of(one, other, links)
    found = [ends_joined(first, second, leads) for first in one[2] for second in other[2]]
    ends = sorted(set([row for row in found if row is not None]))
    if not ends:
        raise Unfit()
    return (one[0] + other[0] - len(links), one[1] + other[1], tuple(ends))


def leads_of(one, other, links):
    """A dict that tells for each pair (side, end of a LETTER) where that leads when both are joined.

    It leads to an end of the joined LETTER, or, from a linked DOOR, to a SEEN one: the pair of its side and its place.
    """
    leads = {}
    doors = 0
    for side, part in enumerate((one, other)):
        linked = {door: seen for at, door, seen in links if at == side}
        for door in range(part[0]):
            if door in linked:
                leads[(side, ("door", door))] = (1 - side, linked[door])
            else:
                leads[(side, ("door", door))] = ("door", doors)
                doors += 1
        for own in range(part[1]):
            leads[(side, ("own", own))] = ("own", own + side * one[1])
    return leads


def ends_joined(first, second, leads):
    """Where all SEEN ones end if those of one end like first, those of other like second; None by a ring."""
    rows = (first, second)
    found = [leads[(side, end)] for side, ends in enumerate(rows) for end in ends]
    # Who is led on so often, each time to a SEEN one, is led round.
    for _ in range(len(found)):
        found = [leads[(here, rows[here][at])] if is_number(here) else (here, at) for here, at in found]
    return None if any([is_number(here) for here, _ in found]) else tuple(found)
