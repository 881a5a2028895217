"""A desk: requests, lines of a text, put one behind another to a Board, each with its reply (section 21)."""

from whomheeds.basics import ascend
from whomheeds.board import Board
from whomheeds.errors import BadLine, Lost, NoAsker, NoMember, NothingDone, NoWord, Unfit
from whomheeds.texts import member_lines, number_in, numbers_in, numbers_text, sum_text, voice_text
from whomheeds.voices import even_weights, voice_of

# What follows each word: a word is a NAME or a NUMBER; the last one may be a row of them.
SHAPES = {
    "ask": ("number", "number"), "leave": ("number", "number"), "settle": ("number", "number"),
    "open": ("number", "members"), "enter": ("number",), "hope": ("name", "numbers"), "drop": ("name",), "undo": (),
    "members": (), "hopes": (), "held": (), "changed": (),
    "spoilt": ("number", "number"), "mended": ("number", "number"), "turns": ("number", "number"),
    "sum": ("name",), "holds": ("name",), "span": ("name",), "against": ("name",),
    "idle": (), "voice": (), "deeds": (),
}


def is_request(thing):
    """Whether thing is a string that is a request."""
    return isinstance(thing, str) and request_in(thing) is not None


def request_in(line):
    """The request that the line is, a tuple of its word and what follows it; None if it is none."""
    words = line.split(" ")
    if words[0] not in SHAPES:
        return None
    shape = SHAPES[words[0]]
    # The last part is all that is left of the line: one word, or a row of them.
    parts = words[1:len(shape)] + [" ".join(words[len(shape):])] if shape else words[1:]
    if len(parts) != len(shape):
        return None
    told = tuple([told_by(part, kind) for part, kind in zip(parts, shape)])
    return None if None in told else (words[0],) + told


def told_by(part, kind):
    """What this part of a request tells, if it is of this kind; otherwise None."""
    if kind == "name":
        return part if is_name(part) else None
    if kind == "number":
        return number_in(part)
    numbers = numbers_in(part)
    if numbers is None or (kind == "members" and not ascend(numbers)):
        return None
    return numbers


def is_name(part):
    """Whether it is 1 to 8 letters a to z."""
    return 1 <= len(part) <= 8 and all([letter in "abcdefghijklmnopqrstuvwxyz" for letter in part])


def replies(council, text):
    """The list of the replies to the lines of the text, put to a new Board of the COUNCIL."""
    board = Board(council)
    if text == "":
        return []
    found = [request_in(line) for line in text.split("\n")]
    if None in found:
        raise BadLine(found.index(None))
    return [reply(board, request) for request in found]


def reply(board, request):
    """The reply of the Board to the request, also if it is refused."""
    try:
        return answer(board, request)
    except NoMember:
        return "refused NoMember"
    except NoAsker:
        return "refused NoAsker"
    except NoWord:
        return "refused NoWord"
    except NothingDone:
        return "refused NothingDone"
    except Unfit:
        return "refused Unfit"
    except Lost:
        return "refused Lost"


def answer(board, request):
    """The reply of the Board to the request that it does not refuse."""
    match request:
        case ("members",):
            return " / ".join(member_lines(board.members()))
        case ("hopes",):
            return row_text([told for told, _ in board.hopes()])
        case ("held",):
            return row_text(board.held())
        case ("changed",):
            return row_text(board.changed())
        case ("spoilt", asker, goal):
            return row_text(board.spoilt_by(asker, goal))
        case ("mended", asker, goal):
            return row_text(board.mended_by(asker, goal))
        case ("turns", member, number):
            return row_text(board.turned_by(member, number))
        case ("sum", word):
            return sum_text(board.total_of(word))
        case ("holds", word):
            return "yes" if board.is_held(word) else "no"
        case ("span", word):
            return numbers_text(board.span(word))
        case ("against", word):
            return "no" if board.breaker(word) is None else "below"
        case ("idle",):
            return row_text([str(one) + ">" + str(other) for one, other in board.idle_arcs()])
        case ("voice",):
            return voice_text(voice_of(board.members(), even_weights(board.members())))
        case ("deeds",):
            return str(len(board))
        case _:
            do_deed(board, request)
            return "done"


def row_text(words):
    """The words, a blank between two; a dash for none."""
    return " ".join(words) if len(words) > 0 else "-"


def do_deed(board, request):
    """Does the deed that is asked for; or takes the last one back."""
    match request:
        case ("ask", asker, goal):
            board.ask(asker, goal)
        case ("leave", asker, goal):
            board.leave(asker, goal)
        case ("settle", member, number):
            board.settle(member, number)
        case ("open", member, some):
            board.open_up(member, some)
        case ("enter", number):
            board.enter(number)
        case ("hope", word, total):
            board.hope(word, total)
        case ("drop", word):
            board.drop(word)
        case ("undo",):
            board.undo()
