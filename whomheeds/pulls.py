"""Whom more heed, or a new number, raises and sinks; whose weights matter; which arcs nobody needs (section 14)."""

from whomheeds.basics import arcs, askers_in, firm_in, frozen, is_firm, lost_ones, put_at, reach_of, refuse
from whomheeds.basics import refuse_lost
from whomheeds.councils import less_arc
from whomheeds.errors import NoWord, Unfit
from whomheeds.follows import all_ends, completed
from whomheeds.gates import gathered, leaders, unlike_roads
from whomheeds.ranges import best_row, range_of
from whomheeds.sums import followed_loudly, held_rows, is_wish, sign_within, weights_not_above, wish_by
from whomheeds.voices import are_weights, lone, loud_enough, sum_parts, value_of, voice_of

WORDS = {"above": "up", "below": "down", "nothing": "none", "either": "either"}


def pull(council, asker, member):
    """How what the MEMBER holds stands to what the asker holds: "up", "down", "none" or "either"."""
    council = frozen(council)
    refuse_pull(council, asker, member)
    return word_in(held_rows(council), asker, member)


def refuse_pull(council, asker, member):
    """Raises what is due for the asker and the MEMBER, which must not be one."""
    refuse(council, (asker, member), (asker,))
    if asker == member:
        raise Unfit()


def word_in(rows, asker, member):
    """The word for both by the rows of what the MEMBERS hold by the ENDS of all FOLLOWINGS."""
    return WORDS[sign_within([row[member] - row[asker] for row in rows])]


def pulls(council, asker):
    """For each other MEMBER the pair of it and the word."""
    council = frozen(council)
    refuse(council, (asker,), (asker,))
    rows = held_rows(council)
    return tuple([(member, word_in(rows, asker, member)) for member in range(len(council)) if member != asker])


def fixing(council, asker, number):
    """The word if this number stands in the place of what the MEMBER holds."""
    council = frozen(council)
    refuse(council, (asker,), (asker,))
    low, high = range_of(council, asker)
    return WORDS[sign_within([number - high, number - low])]


def refuse_paper(council, asker, member, word):
    """Raises what is due for a word of a paper, the asker and the MEMBER."""
    if word not in ("up", "down", "none"):
        raise NoWord(word)
    refuse_pull(council, asker, member)


def less(council, one, other):
    """The SUM whose value is what one holds, less what other holds."""
    return tuple([own - off for own, off in zip(lone(council, one), lone(council, other))])


def pull_paper(council, asker, member, word):
    """WEIGHTS by which the MEMBER does not hold more, less, as much; None if there are none."""
    council = frozen(council)
    refuse_paper(council, asker, member, word)
    if word == "up":
        return weights_not_above(council, less(council, member, asker), 0)
    if word == "down":
        return weights_not_above(council, less(council, asker, member), 0)
    return weights_unlike(council, asker, member)


def weights_unlike(council, one, other):
    """WEIGHTS by which both hold unlike numbers; None if there are none.

    If there are some, ROADS without a MEMBER in common lead from them to firm ones that hold unlike numbers: some
    FOLLOWING has both, and by WEIGHTS that are loud enough for it each comes near enough to its own end.
    """
    pair = unlike_roads(council, one, other)
    if pair is None:
        return None
    choices = tuple(sorted([arc for road in pair for arc in zip(road, road[1:])]))
    numbers = range_of(council, one) + range_of(council, other)
    return followed_loudly(council, completed(council, choices), loud_enough(council, max(numbers) - min(numbers)))


def is_pull_paper(council, asker, member, word, thing):
    """Whether thing is such WEIGHTS."""
    council = frozen(council)
    refuse_paper(council, asker, member, word)
    if not are_weights(council, thing):
        return False
    more, _ = sum_parts(council, thing, less(council, member, asker))
    if word == "up":
        return more <= 0
    return more >= 0 if word == "down" else more != 0


def whose_matter(council, member):
    """The set of the askers whose weights matter for the MEMBER."""
    council = frozen(council)
    refuse(council, (member,))
    return tuple([asker for asker in reach_of(council, member)
                  if not is_firm(council, asker) and unlike_asked(council, asker) is not None])


def unlike_asked(council, asker):
    """Two that the asker asks that hold unlike numbers by some WEIGHTS; None if there are none."""
    told = leaders(gathered(council))
    asked = council[asker]
    return min([(asked[0], goal) for goal in asked if told[goal] != told[asked[0]]], default=None)


def weights_apart(council, asker, member):
    """A pair of WEIGHTS, unlike just at the asker, by which the MEMBER holds unlike numbers; None if there is none."""
    council = frozen(council)
    refuse(council, (asker, member), (asker,))
    pair = unlike_asked(council, asker)
    if pair is None or asker not in reach_of(council, member):
        return None
    weights = weights_unlike(council, pair[0], pair[1])
    voice = voice_of(council, weights)
    goal = min([goal for goal in council[asker] if voice[goal] != voice[asker]])
    return (weights, heeding_more(council, weights, asker, goal))


def heeding_more(council, weights, asker, goal):
    """The WEIGHTS in which the asker gives this one a little more weight."""
    place = council[asker].index(goal)
    return put_at(weights, asker, put_at(weights[asker], place, weights[asker][place] + 1))


def are_unlike_at(council, asker, thing):
    """Whether thing is a pair of WEIGHTS that are alike at all others than the asker."""
    if not isinstance(thing, tuple) or len(thing) != 2 or not all([are_weights(council, part) for part in thing]):
        return False
    return put_at(thing[0], asker, ()) == put_at(thing[1], asker, ())


def is_weights_apart(council, asker, member, thing):
    """Whether thing is such a pair of WEIGHTS."""
    council = frozen(council)
    refuse(council, (asker, member), (asker,))
    if not are_unlike_at(council, asker, thing):
        return False
    first, second = [value_of(council, weights, lone(council, member)) for weights in thing]
    return first != second


def ends_table(council):
    """The set of the ENDS of all FOLLOWINGS."""
    council = frozen(council)
    refuse(council)
    return all_ends(council)


def can_end(council, ends):
    """Whether these numbers are ENDS."""
    council, ends = frozen((council, ends))
    refuse(council)
    return are_ends(council, ends)


def are_ends(council, ends):
    """As can_end, nothing refused."""
    if len(ends) != len(council) or any([ends[firm] != firm for firm in firm_in(council)]):
        return False
    return lost_ones(asking_alike(council, ends)) == ()


def asking_alike(council, ends):
    """The COUNCIL in which each asker asks just those that have the same end as itself."""
    return tuple([part if isinstance(part, int) else tuple([goal for goal in part if ends[goal] == end])
                  for part, end in zip(council, ends)])


def following_to(council, ends):
    """A FOLLOWING with these ENDS."""
    council, ends = frozen((council, ends))
    refuse(council)
    if not are_ends(council, ends):
        raise Unfit()
    # Whom an asker asks there, that leads to its own end and to no other.
    return best_row(asking_alike(council, ends), "least")


def refuse_unlike(one, other):
    """Raises what is due if one of both is not sound, or not the same ones are firm in both."""
    refuse_lost(one)
    refuse_lost(other)
    if len(one) != len(other) or firm_in(one) != firm_in(other):
        raise Unfit()


def tells_no_more(one, other):
    """Whether each WISH that is at least 0 FOR ALL WEIGHTS of other is so of one."""
    one, other = frozen((one, other))
    refuse_unlike(one, other)
    return ends_beyond(one, other) == []


def ends_beyond(one, other):
    """The list of the ENDS of one that are none of other."""
    return [ends for ends in all_ends(one) if not are_ends(other, ends)]


def parting_wish(one, other):
    """A WISH that is at least 0 FOR ALL WEIGHTS of other, not of one; None if there is none."""
    one, other = frozen((one, other))
    refuse_unlike(one, other)
    beyond = ends_beyond(one, other)
    if not beyond:
        return None
    chosen = askers_in(one)
    firm = firm_in(one)[0]
    # Below 0 exactly if all askers end where these ENDS say.
    return ((firm, firm, len(chosen) - 1),) + tuple([(asker, beyond[0][asker], -1) for asker in chosen])


def is_parting_wish(one, other, thing):
    """Whether thing is such a WISH."""
    one, other = frozen((one, other))
    refuse_unlike(one, other)
    if not is_wish(one, thing):
        return False
    return all([wish_by(thing, ends) >= 0 for ends in all_ends(other)]) and any(
        [wish_by(thing, ends) < 0 for ends in all_ends(one)])


def needless_arcs(council):
    """The set of the needless arcs, each by itself."""
    council = frozen(council)
    refuse(council)
    table = all_ends(council)
    return tuple([arc for arc in arcs(council) if is_needless(council, arc, table)])


def is_needless(council, arc, table):
    """Whether all ENDS of the COUNCIL, those in the table, are also ENDS without the arc."""
    narrow = less_arc(council, arc)
    # If somebody is lost, or asks nobody any more, nothing is ENDS.
    return all([are_ends(narrow, ends) for ends in table])


def lean_council(council):
    """What is left if the arcs, ascending, are struck one by one, each if it is needless by then."""
    council = frozen(council)
    refuse(council)
    table = all_ends(council)
    lean = council
    for arc in arcs(council):
        if is_needless(lean, arc, table):
            lean = less_arc(lean, arc)
    return lean
