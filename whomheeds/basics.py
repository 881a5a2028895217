"""What the files of the package share: kinds of values, refusals, who reaches whom, fractions.

The functions here take tuples only: the functions of the interface hand their arguments to frozen first.
"""

from math import gcd, lcm

from whomheeds.errors import Lost, NoAsker, NoFirm, NoMember


def frozen(value):
    """The value with tuples in the place of lists, at any depth."""
    if isinstance(value, (list, tuple)):
        return tuple([frozen(part) for part in value])
    return value


def put_at(row, place, part):
    """The tuple that has part at this place, and is like row elsewhere."""
    return row[:place] + (part,) + row[place + 1:]


def is_number(thing):
    # For Python True and False are integers, for the document they are no numbers.
    return isinstance(thing, int) and not isinstance(thing, bool)


def are_numbers(thing):
    """Whether it is a tuple of numbers."""
    return isinstance(thing, tuple) and all([is_number(part) for part in thing])


def are_tuples(thing, many):
    """Whether it is a tuple of tuples, each of so many parts."""
    return isinstance(thing, tuple) and all([isinstance(part, tuple) and len(part) == many for part in thing])


def ascend(row):
    """Whether the parts of the tuple ascend, none twice."""
    return all([low < high for low, high in zip(row, row[1:])])


def is_set_of_numbers(thing):
    return are_numbers(thing) and ascend(thing)


def subsets(row):
    """The list of all sets of parts of the ascending tuple, those with fewer ahead, the lesser ones of as many."""
    found = [()]
    for part in row:
        found = found + [some + (part,) for some in found]
    return sorted(sorted(found), key=len)


def is_fraction(thing):
    if not are_numbers(thing) or len(thing) != 2:
        return False
    return thing[1] >= 1 and gcd(thing[0], thing[1]) == 1


def is_firm(council, member):
    return isinstance(council[member], int)


def askers_in(council):
    """The set of the numbers of the askers."""
    return tuple([number for number, part in enumerate(council) if isinstance(part, tuple)])


def firm_in(council):
    """The set of the numbers of the firm MEMBERS."""
    return tuple([number for number, part in enumerate(council) if isinstance(part, int)])


def asks(council, member):
    """Those that the MEMBER asks; () for a firm one."""
    return () if is_firm(council, member) else council[member]


def arcs(council):
    """The set of the pairs (asker, one that it asks)."""
    return tuple([(asker, goal) for asker in askers_in(council) for goal in council[asker]])


def refuse_members(council, numbers):
    """Raises NoMember for the first of the numbers that is not that of a MEMBER."""
    for number in numbers:
        if not 0 <= number < len(council):
            raise NoMember(number)


def refuse_askers(council, numbers):
    """Raises NoAsker for the first of these MEMBERS that is firm."""
    for number in numbers:
        if is_firm(council, number):
            raise NoAsker(number)


def refuse_firm_ones(council, numbers):
    """Raises NoFirm for the first of these MEMBERS that is an asker."""
    for number in numbers:
        if not is_firm(council, number):
            raise NoFirm(number)


def refuse_lost(council):
    """Raises Lost for the first asker that reaches no firm one."""
    found = lost_ones(council)
    if found:
        raise Lost(found[0])


def refuse(council, members=(), wanted_askers=(), wanted_firm=()):
    """Raises what holds for all functions that need a sound COUNCIL, in the order of the document."""
    refuse_members(council, members)
    refuse_askers(council, wanted_askers)
    refuse_firm_ones(council, wanted_firm)
    refuse_lost(council)


def reach_of(council, member):
    """The set of the MEMBERS to which a ROAD leads from this one, itself too."""
    found = {member: True}
    ahead = [member]
    while ahead:
        here = ahead.pop()
        for goal in asks(council, here):
            if goal not in found:
                found[goal] = True
                ahead.append(goal)
    return tuple(sorted(found))


def ends_reached(council, member):
    """The set of the firm MEMBERS that this one reaches."""
    return tuple([number for number in reach_of(council, member) if is_firm(council, number)])


def steps_to(council, goals):
    """A dict with, for each MEMBER that reaches one of goals, the fewest arcs by which it does."""
    steps = {goal: 0 for goal in goals}
    many = 0
    layer = list(goals)
    while layer:
        many += 1
        layer = [number for number in range(len(council))
                 if number not in steps and any([goal in steps for goal in asks(council, number)])]
        for number in layer:
            steps[number] = many
    return steps


def shut_among(asked, left):
    """A dict of those of left that come, by whom asked tells for each, to nobody outside of left."""
    shut = {number: True for number in left}
    many = len(shut) + 1
    while len(shut) < many:
        many = len(shut)
        for number in list(shut):
            if not all([goal in shut for goal in asked[number]]):
                del shut[number]
    return shut


def lost_ones(council):
    """The set of the askers that reach no firm one; one that asks nobody is among them."""
    return tuple(shut_among(council, askers_in(council)))


def lowest(top, bottom):
    """The FRACTION top by bottom, bottom above 0."""
    common = gcd(top, bottom)
    return (top // common, bottom // common)


def added_up(numbers, fractions):
    """The FRACTION that comes if each number times the fraction beside it is added up."""
    top, bottom = 0, 1
    for number, (part_top, part_bottom) in zip(numbers, fractions):
        top, bottom = lowest(top * part_bottom + number * part_top * bottom, bottom * part_bottom)
    return (top, bottom)


def on_one_bottom(fractions):
    """A pair: numbers that are to one another as these fractions, and the bottom of them all."""
    common = 1
    for _, bottom in fractions:
        common = lcm(common, bottom)
    return (tuple([top * (common // bottom) for top, bottom in fractions]), common)


def is_between(fraction, low, high):
    """Whether it is strictly between the two numbers; just this number, if they are one."""
    top, bottom = fraction
    if low == high:
        return fraction == (low, 1)
    return low * bottom < top < high * bottom


def is_less(one, other):
    """Whether the one fraction is less than the other."""
    return one[0] * other[1] < other[0] * one[1]


def best_front(pairs, sign):
    """Of pairs, each with a fraction behind, the front of the first one with the greatest; for sign -1 the least."""
    best, (best_top, best_bottom) = pairs[0]
    for front, (top, bottom) in pairs[1:]:
        if (top * best_bottom - best_top * bottom) * sign > 0:
            best, best_top, best_bottom = front, top, bottom
    return best
