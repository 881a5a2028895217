"""What the files of the package share: kinds of values, refusals, who reaches whom, fractions.

The functions here take tuples only: the functions of the interface hand their arguments to frozen first.
"""

from math import gcd

from whomheeds.errors import Lost, NoAsker, NoFirm, NoMember


def frozen(value):
    """The value with tuples in the place of lists, at any depth."""
    if isinstance(value, (list, tuple)):
        return tuple([frozen(part) for part in value])
    return value


def put_at(row, place, part):
    """The tuple that has part at this place, and is like row elsewhere."""
    return row[:place] + (part,) + row[place + 1:]


def is_number(thing):
    # For Python True and False are integers, for the document they are no numbers.
    return isinstance(thing, int) and not isinstance(thing, bool)


def are_numbers(thing):
    """Whether it is a tuple of numbers."""
    return isinstance(thing, tuple) and all([is_number(part) for part in thing])


def ascend(row):
    """Whether the parts of the tuple ascend, none twice."""
    return all([low < high for low, high in zip(row, row[1:])])


def is_set_of_numbers(thing):
    return are_numbers(thing) and ascend(thing)


def is_firm(council, member):
    return is_number(council[member])


def asks(council, member):
    """Those that the MEMBER asks; () for a firm one."""
    return () if is_firm(council, member) else council[member]


def arcs(council):
    """The set of the pairs (asker, one that it asks)."""
    return tuple([(member, goal) for member in range(len(council)) for goal in asks(council, member)])


def refuse_members(council, numbers):
    """Raises NoMember for the first of the numbers that is not that of a MEMBER."""
    for number in numbers:
        if not 0 <= number < len(council):
            raise NoMember(number)


def refuse_askers(council, numbers):
    """Raises NoAsker for the first of these MEMBERS that is firm."""
    for number in numbers:
        if is_firm(council, number):
            raise NoAsker(number)


def refuse_firm_ones(council, numbers):
    """Raises NoFirm for the first of these MEMBERS that is an asker."""
    for number in numbers:
        if not is_firm(council, number):
            raise NoFirm(number)


def refuse_lost(council):
    """Raises Lost for the first asker that reaches no firm one."""
    found = lost_ones(council)
    if found:
        raise Lost(found[0])


def refuse(council, members=(), wanted_askers=(), wanted_firm=()):
    """Raises what holds for all functions that need a sound COUNCIL, in the order of the document."""
    refuse_members(council, members)
    refuse_askers(council, wanted_askers)
    refuse_firm_ones(council, wanted_firm)
    refuse_lost(council)


def reach_of(council, member):
    """The set of the MEMBERS to which a ROAD leads from this one, itself too."""
    found = {member: True}
    ahead = [member]
    while ahead:
        here = ahead.pop()
        for goal in asks(council, here):
            if goal not in found:
                found[goal] = True
                ahead.append(goal)
    return tuple(sorted(found))


def steps_to(council, goals):
    """A dict with, for each MEMBER that reaches one of goals, the fewest arcs by which it does."""
    steps = {goal: 0 for goal in goals}
    many = 0
    layer = list(goals)
    while layer:
        many += 1
        layer = [number for number in range(len(council))
                 if number not in steps and any([goal in steps for goal in asks(council, number)])]
        for number in layer:
            steps[number] = many
    return steps


def lost_ones(council):
    """The set of the askers that reach no firm one; one that asks nobody is among them."""
    members = range(len(council))
    steps = steps_to(council, [number for number in members if is_firm(council, number)])
    return tuple([number for number in members if number not in steps])


def lowest(top, bottom):
    """The FRACTION top by bottom, bottom above 0."""
    common = gcd(top, bottom)
    return (top // common, bottom // common)


def added_up(numbers, fractions):
    """The FRACTION that comes if each number times the fraction beside it is added up."""
    top, bottom = 0, 1
    for number, (part_top, part_bottom) in zip(numbers, fractions):
        top, bottom = lowest(top * part_bottom + number * part_top * bottom, bottom * part_bottom)
    return (top, bottom)
