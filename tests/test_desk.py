"""Promise 22: a desk, its replies held against a Board, each request and each refusal."""

import unittest

from tests import reckoning, samples
from tests.samples import MADE, MANY, SOUND
from whomheeds import texts, voices
from whomheeds.board import Board
from whomheeds.desk import is_request, replies
from whomheeds.errors import BadLine, Lost, NoAsker, NoMember, NothingDone, NoWord, Unfit

COUNCIL = (0, 6, (0, 3), (1, 2))
SAD = (3, (2,), (1,))
REQUESTS = ("ask 2 1", "ask -1 99", "leave 2 0", "settle 0 -7", "settle 0 " + "9" * 380, "open 2 0", "open 2 0 1 10",
            "open 0 -3 -2 0 5", "enter 0", "enter -5", "hope a 0", "hope abcdefgh -1 0 0 5", "hope zzzz 3 3 3", "drop a",
            "undo", "members", "hopes", "held", "changed", "spoilt 2 1", "mended 3 1", "turns 2 -9", "sum gap", "holds gap",
            "span gap", "against gap", "idle", "voice", "deeds", "drop ask", "hope held 1", "ask 2 2")
NO_NUMBERS = ("", "05", "00", "+5", "-0", "-05", "--5", "5.0", "5,", "1_0", "0x5", "-", "5\t", "\u0663", "\u00b2", "\uff15",
              "5/1", "x", "5\n", "5\r")
NO_NAMES = ("", "A", "aB", "a1", "abcdefghi", "a_b", "\u00e9", "a-", "1", "-", "a\t", "\u0430", "a\n")
NONE = ("", " ", "ask", "ask 2", "ask 2 1 0", "ask  2 1", " ask 2 1", "ask 2 1 ", "ask\t2 1", "ask 2  1", "Ask 2 1", "asks 2 1",
        "leave", "leave 2", "leave 2 1 0", "settle 0", "settle", "settle 0 1 2", "open 2", "open", "open 2 ", "open 2 0 0",
        "open 2 1 0", "open 2 10 9", "open 2 -2 -3", "open 2 0 1 1", "enter", "enter 1 2", "enter x", "hope", "hope a",
        "hope a ", "hope 1 2", "hope a b", "hope a 1  2", "hope a 1 2 ", "drop", "drop a b", "drop a ", "undo 1", "undo ",
        " undo", "members 0", "members ", "hopes a", "held x", "changed 1", "spoilt 2", "spoilt", "spoilt 2 1 3", "mended 2",
        "mended a b", "turns 2", "turns", "turns a 2", "sum", "sum 1", "sum a b", "holds", "holds a b", "span", "span 3",
        "against", "against a 1", "idle 1", "idle ", "voice 1", "deeds 0", "DEEDS", "deed", "hello", "open_up 2 0", "is_held a",
        "council", "asks 0 1", "undo\n", "\nundo", "held\r", "ask 2 1\nundo", "twin", "breaker a", "hold gap")


class Requests(unittest.TestCase):

    def test_is_request(self):
        for text in REQUESTS:
            self.assertIs(is_request(text), True, text)
        for text in NONE:
            self.assertIs(is_request(text), False, text)

    def test_words(self):
        for word in NO_NUMBERS:
            for text in ("ask {} 1", "ask 1 {}", "leave {} 1", "leave 1 {}", "settle {} 1", "settle 1 {}", "open {} 1",
                         "open 1 {}", "open 1 2 {}", "open 1 {} 7", "enter {}", "hope a {}", "hope a 1 {}", "hope a {} 1",
                         "spoilt {} 1", "spoilt 1 {}", "mended {} 1", "mended 1 {}", "turns {} 1", "turns 1 {}"):
                self.assertIs(is_request(text.replace("{}", word)), False, text.replace("{}", word))
        for word in NO_NAMES:
            for text in ("hope {} 1", "drop {}", "sum {}", "holds {}", "span {}", "against {}"):
                self.assertIs(is_request(text.replace("{}", word)), False, text.replace("{}", word))

    def test_other_kinds(self):
        for thing in (None, True, False, 0, 1, -1, 10 ** 40, (), [], ("held",), ["held"], (("held",),), ("ask", 2, 1),
                      ["ask 2 1"], ((((((("undo",),),),),),),)):
            self.assertIs(is_request(thing), False)

    def test_texts_of_any_length(self):
        """Python itself reads no number of more than some thousands of figures at once."""
        for many in (400, 5000, 20000):
            self.assertIs(is_request("enter " + "9" * many), True)
            self.assertIs(is_request("enter 0" + "9" * many), False)
            self.assertIs(is_request("enter -" + "9" * many + "x"), False)
        self.assertIs(is_request("hope a" + " 1" * 5000), True)
        self.assertIs(is_request("open 1 " + " ".join(map(str, range(3000)))), True)
        self.assertIs(is_request("open 1 " + " ".join(map(str, range(3000))) + " 5"), False)
        self.assertIs(is_request("open 1 " + "8" * 5000 + " " + "9" * 5000), True)
        self.assertIs(is_request("open 1 " + "9" * 5000 + " " + "8" * 5000), False)
        self.assertIs(is_request("a" * 100000), False)
        self.assertIs(is_request(" " * 5000), False)


def words(some):
    return " ".join(some) if some else "-"


def answer(board, line):
    """The reply of this Board to a request, as the table tells it."""
    word, *told = line.split(" ")
    if word in ("hope", "drop", "sum", "holds", "span", "against"):
        name, numbers = told[0], list(map(int, told[1:]))
    else:
        name, numbers = None, list(map(int, told))
    if word in ("ask", "leave", "settle", "enter", "undo"):
        getattr(board, word)(*numbers)
        return "done"
    if word == "open":
        board.open_up(numbers[0], numbers[1:])
        return "done"
    if word == "hope":
        board.hope(name, numbers)
        return "done"
    if word == "drop":
        board.drop(name)
        return "done"
    if word == "members":
        return " / ".join(texts.council_text(board.members()).split("\n")[1:-1])
    if word == "sum":
        board.is_held(name)
        return texts.sum_text(dict(board.hopes())[name])
    if word == "voice":
        council = board.members()
        return texts.voice_text(reckoning.told_voice(council, voices.equal_weights(council)))
    if word == "idle":
        return words([f"{a}>{b}" for a, b in board.idle_arcs()])
    if word == "holds":
        return "yes" if board.is_held(name) else "no"
    if word == "span":
        return "{} {}".format(*board.span(name))
    if word == "against":
        return "no" if board.breaker(name) is None else "below"
    if word == "deeds":
        return str(len(board))
    if word == "hopes":
        return words([told for told, _ in board.hopes()])
    method = {"held": board.held, "changed": board.changed, "spoilt": board.spoilt_by, "mended": board.mended_by,
              "turns": board.turned_by}[word]
    return words(method(*numbers))


def expected(council, lines):
    board, found = Board(council), []
    for line in lines:
        try:
            found.append(answer(board, line))
        except (NoMember, NoAsker, NoWord, NothingDone, Unfit, Lost) as error:
            found.append("refused " + error.__class__.__name__)
    return found


def lines_for(council, seed, many):
    """Requests of all kinds, fit and unfit."""
    roll = samples.rolls(seed)
    size, names, found = len(council), ("gap", "top", "a", "zz"), []
    for _ in range(many):
        name, a, b = names[next(roll) % 4], next(roll) % (size + 1), next(roll) % (size + 2) - 1
        total = " ".join(str(next(roll) % 5 - 2) for _ in range(size - (next(roll) % 6 == 0)))
        some = " ".join(map(str, sorted({next(roll) % size for _ in range(1 + next(roll) % 2)})))
        kinds = [f"ask {a} {b}", f"leave {a} {b}", f"settle {a} {b}", f"open {a} {some}", f"hope {name} {total}", f"drop {name}",
                 "undo", "members", "hopes", "held", "changed", f"spoilt {a} {b}", f"mended {a} {b}", f"turns {a} {b}",
                 f"sum {name}", f"holds {name}", f"span {name}", f"against {name}", "idle", "voice", "deeds"]
        if total:
            found.append(kinds[next(roll) % len(kinds)])
            if next(roll) % 3 == 0:
                found.append(f"hope {name} {total}")
    return found[:many]


class Replies(unittest.TestCase):

    def test_replies(self):
        seen = set()
        for seed, council in enumerate(SOUND[::19] + MADE[::5] + [(7,), COUNCIL]):
            lines = lines_for(council, seed, 60)
            made = replies(council, "\n".join(lines))
            self.assertEqual(made, expected(council, lines))
            seen |= {(line.split(" ")[0], reply.split(" ")[0] if reply.startswith("refused") else "") for line, reply in zip(lines, made)}
            seen |= {reply for reply in made if reply.startswith("refused") or reply in ("-", "yes", "no", "below", "done")}
        self.assertTrue({"refused " + name for name in ("NoMember", "NoAsker", "NoWord", "NothingDone", "Unfit", "Lost")} <= seen)
        self.assertTrue({"-", "yes", "no", "below", "done"} <= seen)

    def test_each_request(self):
        lines = ("hope gap 0 0 -1 1", "hope top 0 1 0 -2", "hopes", "held", "holds gap", "holds top", "against gap", "against top",
                 "span gap", "span top", "sum top", "spoilt 3 0", "mended 3 1", "turns 2 9", "idle", "voice", "deeds", "settle 2 7",
                 "changed", "members", "enter -4", "sum gap", "open 2 0 4", "members", "leave 2 4", "ask 2 1", "drop gap", "hopes",
                 "undo", "hopes", "deeds", "drop top", "drop gap", "hopes", "held", "idle", "changed")
        right = ["done", "done", "gap top", "gap", "yes", "no", "no", "below", "0 6", "-6 6", "0 1 0 -2", "-", "top",
                 "gap", "2>3", "0 6 2 4", "2", "done", "gap", "holds 0 / holds 6 / holds 7 / asks 1 2", "done", "0 0 -1 1 0", "done",
                 "holds 0 / holds 6 / asks 0 4 / asks 1 2 / holds -4", "done", "done", "done", "top", "done", "gap top", "7",
                 "done", "done", "-", "-", "2>0 2>1 3>1 3>2", "-"]
        self.assertEqual(expected(COUNCIL, lines), right)
        self.assertEqual(replies(COUNCIL, "\n".join(lines)), right)

    def test_refusals(self):
        lines = ("undo", "ask 0 9", "ask 0 0", "ask 2 2", "ask 2 0", "leave -1 9", "leave 2 9", "leave 0 2", "leave 2 1", "open 9 8",
                 "open 2 -1", "open 2 2", "settle 9 9", "hope a 1", "drop a", "sum a", "holds a", "span a", "against a", "spoilt 9 0",
                 "spoilt 1 0", "spoilt 2 3", "mended 2 1", "mended 0 1", "mended 2 -1", "turns 4 0", "members", "deeds", "hopes")
        kinds = ("NothingDone", "NoMember", "NoAsker", "Unfit", "Unfit", "NoMember", "NoMember", "NoAsker", "Unfit", "NoMember",
                 "NoMember", "Unfit", "NoMember", "Unfit", "NoWord", "NoWord", "NoWord", "NoWord", "NoWord", "NoMember", "NoAsker",
                 "Unfit", "Unfit", "NoAsker", "NoMember", "NoMember")
        right = ["refused " + kind for kind in kinds] + ["holds 0 / holds 6 / asks 0 3 / asks 1 2", "0", "-"]
        self.assertEqual(replies(COUNCIL, "\n".join(lines)), right)
        shut = "leave 1 0\nmended 1 0\nopen 1 2\nopen 0 1\nmembers"
        self.assertEqual(replies((5, (0, 2), (1,)), shut), ["refused Lost"] * 4 + ["holds 5 / asks 0 2 / asks 1"])

    def test_bad_lines(self):
        good = "hope a 0 0 0 1\nask 2 1\nundo"
        lines = good.split("\n")
        for bad in [text for text in NONE if "\n" not in text] + ["hope A 1", "ask 02 1", "asK 2 1"]:
            for place in range(4):
                told = lines[:place] + [bad] + lines[place:]
                for text in ("\n".join(told), "\n".join(told + [bad]), "\n".join(told + ["hello"])):
                    self.check(text, place)
        self.check(good + "\n", 3)
        self.check("\n", 0)
        self.check("held\n\nheld", 1)
        self.check("\nheld", 0)
        self.check("undo\nhello", 1)
        self.assertEqual(replies(COUNCIL, "undo\nheld"), ["refused NothingDone", "-"])

    def check(self, text, number):
        if text == "":
            return
        with self.subTest(text=text):
            with self.assertRaises(BadLine) as caught:
                replies(COUNCIL, text)
            self.assertEqual(vars(caught.exception), {"number": number})

    def test_lost_comes_first(self):
        for text in ("", "hello", "\n", "held", "held\nhello"):
            for council, number in ((SAD, 1), (((1,), (0,)), 0)):
                with self.assertRaises(Lost) as caught:
                    replies(council, text)
                self.assertEqual(vars(caught.exception), {"number": number})

    def test_the_list_is_new(self):
        for text in ("", "held"):
            first = replies(COUNCIL, text)
            kept = list(first)
            first.append("more")
            self.assertEqual(replies(COUNCIL, text), kept)
            self.assertIs(type(first), list)

    def test_each_call_has_a_new_board(self):
        council = [0, 6, [0, 3], [1, 2]]
        self.assertEqual(replies(council, "settle 0 9\nmembers"), ["done", "holds 9 / holds 6 / asks 0 3 / asks 1 2"])
        self.assertEqual(replies(council, "members\ndeeds"), ["holds 0 / holds 6 / asks 0 3 / asks 1 2", "0"])
        self.assertEqual(council, [0, 6, [0, 3], [1, 2]])

    def test_sixty_lines_at_the_bounds(self):
        total = " ".join(map(str, samples.total_for(MANY, 4)))
        lines = [f"hope a {total}", "span a", "held", "against a", "voice"] + [f"settle {k % 6} {k}" for k in range(50)]
        lines += ["span a", "changed", "deeds", "undo", "members"]
        self.assertEqual(replies(MANY, "\n".join(lines)), expected(MANY, lines))

    def test_board_and_texts_agree(self):
        """What a desk tells of MEMBERS is read back as the COUNCIL of a Board."""
        for seed, council in enumerate(SOUND[::31] + MADE[::9]):
            lines = [line for line in lines_for(council, seed, 30) if line.split(" ")[0] in ("ask", "leave", "settle", "open", "undo")]
            board = Board(council)
            for line in lines:
                try:
                    answer(board, line)
                except (NoMember, NoAsker, NothingDone, Unfit, Lost):
                    pass
            told = replies(council, "\n".join(lines + ["members"]))[-1]
            self.assertEqual(texts.read_council("council\n" + told.replace(" / ", "\n")), board.members())


if __name__ == "__main__":
    unittest.main()
