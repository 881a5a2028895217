"""A board: a COUNCIL that is changed deed by deed, and hopes of what it always says (section 20)."""

from whomheeds.basics import arcs, frozen, lost_ones, refuse_lost
from whomheeds.councils import less_arc, made_asker, made_firm, with_arc, with_firm, without_arc
from whomheeds.errors import NothingDone, NoWord, Unfit
from whomheeds.sums import against, holds, spans


def left_off(council, asker, goal):
    """The COUNCIL in which asker does not ask goal, if it is sound."""
    council = without_arc(council, asker, goal)
    refuse_lost(council)
    return council


def words_held(council, kept):
    """The set of the words of those of these hopes that hold in the COUNCIL."""
    return tuple([word for (word, _), (low, _) in zip(kept, spans_of(council, kept)) if low >= 0])


def words_turned(kept, one, other):
    """The set of the words of these hopes that are in just one of both sets."""
    return tuple([word for word, _ in kept if (word in one) != (word in other)])


def spans_of(council, kept):
    """For each of these hopes the pair of its least and its greatest value by the ENDS of all FOLLOWINGS."""
    return spans(council, [total for _, total in kept])


class Board:
    """A COUNCIL so far, sound at each moment, and SUMS of it that are kept under words."""

    def __init__(self, council):
        council = frozen(council)
        refuse_lost(council)
        self.council = council
        # Pairs (word, total), ascending by their words.
        self.kept = ()
        # For each deed that can be taken back what COUNCIL and hopes were ahead of it.
        self.past = []

    def __eq__(self, other):
        return isinstance(other, Board) and self.council == other.council and self.kept == other.kept

    def __len__(self):
        return len(self.past)

    def go_on(self, council, kept):
        """Does a deed, behind which COUNCIL and hopes are these."""
        self.past.append((self.council, self.kept))
        self.council = council
        self.kept = kept

    def ask(self, asker, goal):
        """This asker asks goal, too."""
        self.go_on(with_arc(self.council, asker, goal), self.kept)

    def leave(self, asker, goal):
        """This asker asks goal no more."""
        self.go_on(left_off(self.council, asker, goal), self.kept)

    def settle(self, member, number):
        """This MEMBER holds number from now on."""
        self.go_on(made_firm(self.council, member, number), self.kept)

    def open_up(self, member, some):
        """This MEMBER asks just these from now on."""
        council = made_asker(self.council, member, some)
        refuse_lost(council)
        self.go_on(council, self.kept)

    def enter(self, number):
        """A further MEMBER comes, behind all others, that holds number."""
        self.go_on(with_firm(self.council, number), tuple([(word, total + (0,)) for word, total in self.kept]))

    def hope(self, word, total):
        """This SUM is kept under the word, instead of one that was there."""
        if len(total) != len(self.council):
            raise Unfit()
        others = [pair for pair in self.kept if pair[0] != word]
        self.go_on(self.council, tuple(sorted(others + [(word, frozen(total))])))

    def drop(self, word):
        """The hope under this word goes."""
        self.total_of(word)
        self.go_on(self.council, tuple([pair for pair in self.kept if pair[0] != word]))

    def undo(self):
        """Takes back the last deed that is not taken back."""
        if not self.past:
            raise NothingDone()
        self.council, self.kept = self.past.pop()

    def twin(self):
        """An equal Board with the same deeds to be taken back, that shares nothing with this one."""
        board = Board(self.council)
        board.kept = self.kept
        board.past = list(self.past)
        return board

    def members(self):
        """The COUNCIL."""
        return self.council

    def hopes(self):
        """The ascending tuple of the pairs (word, total)."""
        return self.kept

    def total_of(self, word):
        """The SUM that is kept under this word."""
        found = [total for told, total in self.kept if told == word]
        if not found:
            raise NoWord(word)
        return found[0]

    def is_held(self, word):
        """Whether this hope holds."""
        return holds(self.council, self.total_of(word), 0)

    def held(self):
        """The set of the words of the hopes that hold."""
        return words_held(self.council, self.kept)

    def breaker(self, word):
        """A FOLLOWING by whose ENDS the value of this hope is below 0; None if it holds."""
        return against(self.council, self.total_of(word), 0)

    def span(self, word):
        """The pair of its least and its greatest value by the ENDS of all FOLLOWINGS."""
        return spans(self.council, [self.total_of(word)])[0]

    def spoilt_by(self, asker, goal):
        """The set of the words of the hopes that hold, and would not behind ask(asker, goal)."""
        then = words_held(with_arc(self.council, asker, goal), self.kept)
        return tuple([word for word in self.held() if word not in then])

    def mended_by(self, asker, goal):
        """The set of the words of the hopes that do not hold, and would behind leave(asker, goal)."""
        then = words_held(left_off(self.council, asker, goal), self.kept)
        now = self.held()
        return tuple([word for word in then if word not in now])

    def turned_by(self, member, number):
        """The set of the words of the hopes that hold just now, or just behind settle(member, number)."""
        then = words_held(made_firm(self.council, member, number), self.kept)
        return words_turned(self.kept, self.held(), then)

    def changed(self):
        """The set of the words kept now, and ahead of the last deed, whose hopes held just at one of both times."""
        if not self.past:
            return ()
        council, kept = self.past[-1]
        known = [word for word, _ in kept]
        both = [pair for pair in self.kept if pair[0] in known]
        return words_turned(both, self.held(), words_held(council, kept))

    def idle_arcs(self):
        """The ascending tuple of the arcs without each of which all hopes have the same span."""
        now = spans_of(self.council, self.kept)
        found = []
        for arc in arcs(self.council):
            narrow = less_arc(self.council, arc)
            # An asker that asks nobody any more is lost, too.
            if lost_ones(narrow) == () and spans_of(narrow, self.kept) == now:
                found.append(arc)
        return tuple(found)
