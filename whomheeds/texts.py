"""Texts of COUNCILS, WEIGHTS, WISHES, VOICES, SUMS and FOLLOWINGS, written and read (section 19)."""

from whomheeds.basics import ascend, asks, frozen, is_firm, is_fraction
from whomheeds.errors import BadLine, BadText
from whomheeds.follows import is_plain_following


def number_in(word):
    """The number written so; None if the word is none.

    It is read piece by piece, as Python reads no more than some thousands of figures at once.
    """
    figures = word.removeprefix("-")
    if not is_plain(figures) or word == "-0":
        return None
    number = 0
    for at in range(0, len(figures), 60):
        piece = figures[at:at + 60]
        number = number * 10 ** (len(piece) % 61) + int(piece)
    return number if figures == word else -number


def is_plain(figures):
    """Whether these are figures, without needless zeros."""
    if figures == "" or not all([figure in "0123456789" for figure in figures]):
        return False
    return figures == "0" or figures[0] != "0"


def numbers_in(line):
    """The tuple of the numbers in the line, a blank between two; None if one of its words is none."""
    found = tuple([number_in(word) for word in line.split(" ")])
    return None if None in found else found


def numbers_text(numbers):
    """The line of these numbers."""
    return " ".join([str(number) for number in numbers])


def lines_of(text):
    """The list of the lines; a line break at the end begins no further one."""
    lines = text.split("\n")
    return lines[:-1] if lines[-1] == "" else lines


def text_of(lines):
    """The text that has these lines, a line break behind each."""
    return "".join([line + "\n" for line in lines])


def fraction_text(fraction):
    """The text of the FRACTION."""
    top, bottom = fraction
    return str(top) if bottom == 1 else str(top) + "/" + str(bottom)


def read_fraction(text):
    """The FRACTION with this text."""
    fraction = fraction_in(text)
    if fraction is None:
        raise BadText()
    return fraction


def fraction_in(text):
    """The FRACTION with this text; None if it is that of none."""
    top, stroke, bottom = text.partition("/")
    fraction = (number_in(top), number_in(bottom) if stroke else 1)
    return fraction if is_fraction(fraction) and (not stroke or fraction[1] > 1) else None


def council_text(one):
    """The text of the COUNCIL, sound or not."""
    return text_of(["council"] + member_lines(one))


def member_lines(council):
    """For each MEMBER its line."""
    return ["holds " + str(part) if is_firm(council, member) else "asks " + numbers_text(part)
            for member, part in enumerate(council)]


def read_council(text):
    """The COUNCIL with this text, sound or not."""
    lines = lines_of(text)
    if lines == [] or lines[0] != "council":
        raise BadLine(0)
    many = len(lines) - 1
    found = [member_in(line, number, many) for number, line in enumerate(lines[1:])]
    if None in found:
        raise BadLine(1 + found.index(None))
    if many == 0:
        raise BadLine(1)
    return tuple(found)


def member_in(line, place, many):
    """The MEMBER at this place, of so many, that the line tells; None if it tells none."""
    word, _, rest = line.partition(" ")
    numbers = numbers_in(rest)
    if numbers is None:
        return None
    if word == "holds" and len(numbers) == 1:
        return numbers[0]
    fits = ascend(numbers) and numbers[0] >= 0 and numbers[-1] < many and place not in numbers
    return numbers if word == "asks" and fits else None


def weights_text(weights):
    """The text of the WEIGHTS."""
    return text_of([numbers_text(row) if len(row) > 0 else "-" for row in weights])


def read_weights(council, text):
    """The WEIGHTS of the COUNCIL with this text."""
    council = frozen(council)
    lines = lines_of(text)
    found = [row_in(line, len(asks(council, number))) if number < len(council) else None
             for number, line in enumerate(lines)]
    if None in found:
        raise BadLine(found.index(None))
    if len(found) < len(council):
        raise BadLine(len(found))
    return tuple(found)


def row_in(line, many):
    """So many weights that the line tells, () for none; None if it does not tell so many."""
    if many == 0:
        return () if line == "-" else None
    numbers = numbers_in(line)
    return numbers if numbers is not None and len(numbers) == many and min(numbers) >= 1 else None


def wish_text(wish):
    """The text of the WISH."""
    return text_of([numbers_text(triple) for triple in wish])


def read_wish(council, text):
    """The WISH of the COUNCIL with this text."""
    council = frozen(council)
    found = [triple_in(council, line) for line in lines_of(text)]
    if None in found:
        raise BadLine(found.index(None))
    return tuple(found)


def triple_in(council, line):
    """The triple of a WISH that the line tells; None if it tells none."""
    numbers = numbers_in(line)
    if numbers is None or len(numbers) != 3:
        return None
    inside = all([0 <= number < len(council) for number in numbers[:2]])
    return numbers if inside and is_firm(council, numbers[1]) else None


def voice_text(voice):
    """The text of the VOICE."""
    return " ".join([fraction_text(fraction) for fraction in voice])


def read_voice(council, text):
    """The tuple of FRACTIONS, as many as the COUNCIL has MEMBERS, with this text."""
    found = tuple([fraction_in(word) for word in text.split(" ")])
    if None in found or len(found) != len(council):
        raise BadText()
    return found


def sum_text(total):
    """The text of the SUM."""
    return numbers_text(total)


def read_sum(council, text):
    """The SUM of the COUNCIL with this text."""
    found = numbers_in(text)
    if found is None or len(found) != len(council):
        raise BadText()
    return found


def following_text(following):
    """The text of the FOLLOWING."""
    return numbers_text(following)


def read_following(council, text):
    """The FOLLOWING of the COUNCIL with this text."""
    found = numbers_in(text)
    if not is_plain_following(frozen(council), found):
        raise BadText()
    return found
