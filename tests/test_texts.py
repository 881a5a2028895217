"""Promise 20: texts, each one written and read back, and each way in which a line is none."""

import re
import unittest

from tests import reckoning, samples
from tests.samples import BIG, MADE, SMALL, SOUND, WIDE
from whomheeds import follows, texts
from whomheeds.errors import BadLine, BadText

COUNCILS = SMALL[::7] + MADE[::3] + [WIDE, BIG, (5,), (-10 ** 30,)]
COUNCIL = (5, (0, 2), (0, 1, 3), -2)
# Figures of other scripts, and what looks like figures.
SCRIPTS = ("\u0663", "\u00b2", "\uff15", "\u0967", "\u2167", "\u00bd")
# What no number is; each of these stands where a number should.
NO_NUMBERS = ("", "05", "00", "+5", "-0", "-05", "--5", "- 5", "5.0", "5,", "1_0", "0x5", "a", "-", "5\t", "\t5", " 5", "5 ",
              "5\r", "\x0b5", "5/1", "1e3", "\u22125", "5\u00a0", "5\x00") + SCRIPTS


class Numbers(unittest.TestCase):

    def test_fractions(self):
        for fraction in ((0, 1), (7, 2), (-3, 1), (-1, 7), (10 ** 30, 10 ** 30 - 1), (-10 ** 200, 3), (1, 10 ** 200)):
            text = texts.fraction_text(fraction)
            self.assertEqual(text, str(fraction[0]) + ("/" + str(fraction[1])) * (fraction[1] > 1))
            self.assertEqual(texts.read_fraction(text), fraction)
            self.assertIs(type(texts.read_fraction(text)), tuple)

    def test_texts_of_no_fraction(self):
        for text in NO_NUMBERS + tuple(part + "/7" for part in NO_NUMBERS) + tuple("3/" + part for part in NO_NUMBERS):
            with self.assertRaises(BadText, msg=text) as caught:
                texts.read_fraction(text)
            self.assertEqual(vars(caught.exception), {})
        for text in ("4/2", "0/3", "5/1", "1/0", "1/-2", "-1/-2", "1/2/3", "/", "1/", "/2", "1//2", "1 /2", "1/ 2", "1/2\n", "\n"):
            with self.assertRaises(BadText, msg=text):
                texts.read_fraction(text)

    def test_all_short_texts(self):
        """Every text of up to four of these characters, held against a plain pattern."""
        texts_so_far = [""]
        for _ in range(4):
            texts_so_far += [text + char for text in texts_so_far if len(text) == len(texts_so_far[-1]) for char in "-0127/ "]
        for text in texts_so_far:
            right = self.fraction_in(text)
            try:
                made = texts.read_fraction(text)
            except BadText:
                made = None
            self.assertEqual(made, right, repr(text))

    def fraction_in(self, text):
        found = re.fullmatch("(0|-?[1-9][0-9]*)(?:/([1-9][0-9]*))?", text)
        if found is None:
            return None
        fraction = (int(found[1]), int(found[2] or 1))
        return fraction if reckoning.is_fraction(fraction) and found[2] != "1" else None

    def test_great_numbers(self):
        for many in (59, 60, 61, 120, 121, 398):
            for text in ("9" * many, "-1" + "0" * (many - 1), "1" + "0" * (many - 2) + "7"):
                self.assertEqual(texts.read_fraction(text), (int(text), 1))
                self.assertEqual(texts.read_sum((5,), text), (int(text),))


class Councils(unittest.TestCase):

    def test_written_and_read(self):
        for council in COUNCILS:
            lines = ["council"] + ["holds " + str(part) if isinstance(part, int) else
                                   "asks " + " ".join(map(str, part)) for part in council]
            text = texts.council_text(council)
            self.assertEqual(text, "\n".join(lines) + "\n")
            self.assertEqual(texts.read_council(text), council)
            self.assertEqual(texts.read_council(text[:-1]), council)
            self.assertTrue(reckoning.is_council(texts.read_council(text)))

    def check(self, text, number):
        with self.subTest(text=text):
            with self.assertRaises(BadLine) as caught:
                texts.read_council(text)
            self.assertEqual(vars(caught.exception), {"number": number})

    def test_bad_lines(self):
        lines = texts.council_text(COUNCIL).split("\n")[:-1]
        bad = ["", "holds", "holds ", "asks", "asks ", "hold 5", "Holds 5", "holds 5 6", "asks 0,2", " holds 5", "holds 5 ",
               "holds  5", "holds\t5", "asks  0 2", "asks 0  2", "asks 0 2 ", " asks 0 2", "asks -1 0", "asks 0 0", "asks 0 4",
               "asks 3 0", "asks 0 0 3", "council", "5", "0 2", "holds 5\r", "holds\u00a05", "asks 0 " + "9" * 99]
        bad += ["holds " + part for part in NO_NUMBERS] + ["asks " + part for part in NO_NUMBERS]
        bad += ["asks 0 " + part for part in NO_NUMBERS]
        for place in range(1, 5):
            for line in bad + [f"asks {place - 1}", "asks " + " ".join(sorted({"0", str(place - 1)}))]:
                if "\n" not in line:
                    told = "\n".join(lines[:place] + [line] + lines[place + 1:])
                    self.check(told + "\n", place)
                    # An empty line at the end is one only with a line break behind it.
                    if line != "" or place < 4:
                        self.check(told, place)
                    # Of several lines that are none the first one is told.
                    self.check("\n".join(lines[:place] + [line] * (5 - place)) + "\n", place)
                    self.check("\n".join(["counci1"] + lines[1:place] + [line]), 0)

    def test_first_line(self):
        for line in ("", " council", "council ", "Council", "council 4", "COUNCIL", "holds 5", "council\r", "coun cil", "council\t"):
            self.check(line, 0)
            self.check(line + "\nholds 5\n", 0)
            self.check(line + "\nholds 05\n", 0)
        self.check("\n", 0)
        self.check("\ncouncil\nholds 5", 0)
        self.check("\n\n", 0)

    def test_too_few_and_too_many_lines(self):
        self.check("council", 1)
        self.check("council\n", 1)
        self.check("council\n\n", 1)
        self.check("council\nholds 5\n\n", 2)
        self.check("council\nholds 5\n\nholds 6", 2)
        # By a line less nobody has this number.
        self.check("council\nholds 5\nasks 0 2", 2)
        self.assertEqual(texts.read_council("council\nholds 5\nasks 0 2\nholds 1"), (5, (0, 2), 1))


class Rows(unittest.TestCase):

    def test_weights(self):
        for seed, council in enumerate(COUNCILS):
            for weights in (samples.weights_for(council, seed), samples.rows_for(council, seed, 10 ** 30 - 9, 9)):
                lines = [" ".join(map(str, row)) or "-" for row in weights]
                text = texts.weights_text(weights)
                self.assertEqual(text, "\n".join(lines) + "\n")
                self.assertEqual(texts.read_weights(council, text), weights)
                self.assertEqual(texts.read_weights(council, text[:-1]), weights)

    def check_weights(self, text, number):
        with self.subTest(text=text):
            with self.assertRaises(BadLine) as caught:
                texts.read_weights(COUNCIL, text)
            self.assertEqual(vars(caught.exception), {"number": number})

    def test_bad_weights(self):
        lines = ["-", "1 2", "3 1 1", "-"]
        for place in range(4):
            bad = ["", "1", "1 2 3 4", "-1 2", "0 1", "1 0 1", "1 -", "- 1", "--", " -", "- ", "-\r", "a b", "1,2"]
            bad += ["1 2 3", "- -"] if place != 2 else ["1 2", "-"]
            bad += ["1 2"] if place != 1 else ["-"]
            bad += ["1 " + part for part in NO_NUMBERS] if place == 1 else []
            bad += [part + " 1 1" for part in NO_NUMBERS] if place == 2 else []
            bad += [" " + lines[place], lines[place] + " ", lines[place].replace(" ", "  ") + "  ", lines[place] + "\t"]
            for line in bad:
                told = "\n".join(lines[:place] + [line] + lines[place + 1:])
                self.check_weights(told, place)
                if line or place < 3:
                    self.check_weights(told + "\n" if line else told, place)
                self.check_weights("\n".join(lines[:place] + [line] * 7), place)
        for many in range(4):
            self.check_weights("\n".join(lines[:many]), many)
            self.check_weights("".join(line + "\n" for line in lines[:many]), many)
        self.check_weights("-\n1 2\n3 1 1\n-\n\n", 4)
        self.check_weights("-\n1 2\n3 1 1\n-\n-", 4)
        self.check_weights("-\n1 2\n3 1 1\n-\n1\n", 4)
        self.check_weights("\n", 0)
        self.check_weights("-\n\n", 1)

    def test_weights_of_a_council_that_is_not_sound(self):
        self.assertEqual(texts.read_weights((5, (2,), (1,)), "-\n7\n8"), ((), (7,), (8,)))
        self.assertEqual(texts.read_weights([5, [0]], "-\n7\n"), ((), (7,)))

    def test_wishes(self):
        for seed, council in enumerate(COUNCILS):
            if not reckoning.firm_ones(council):
                continue
            wish = samples.wish_for(council, seed)
            text = texts.wish_text(wish)
            self.assertEqual(text, "".join(f"{a} {b} {c}\n" for a, b, c in wish))
            self.assertEqual(texts.read_wish(council, text), wish)
            self.assertEqual(texts.read_wish(council, text[:-1]), wish)
        self.assertEqual(texts.read_wish(COUNCIL, ""), ())
        self.assertEqual(texts.wish_text(()), "")
        self.assertEqual(texts.wish_text([[1, 0, -10 ** 30]]), "1 0 " + str(-10 ** 30) + "\n")

    def test_bad_wishes(self):
        bad = ["", "1 0", "1 0 2 3", "1 1 2", "1 2 2", "4 0 2", "-1 0 2", "1 4 2", "1 -1 2", " 1 0 2", "1 0 2 ", "1  0 2",
               "1 0\t2", "-", "1 0 2\r", "wish", "1 0 2,"]
        bad += ["1 0 " + part for part in NO_NUMBERS] + [part + " 0 2" for part in NO_NUMBERS]
        bad += ["1 " + part + " 2" for part in NO_NUMBERS]
        for place in range(3):
            for line in bad:
                lines = ["1 0 2", "3 3 -4", "1 0 2"]
                lines[place] = line
                for told in {"\n".join(lines + ["1 1 1"]), "\n".join(lines[:place + 1]) + "\n", "\n".join(lines) + "\n"}:
                    with self.assertRaises(BadLine, msg=told) as caught:
                        texts.read_wish(COUNCIL, told)
                    self.assertEqual(caught.exception.number, place)
        for told, number in (("\n", 0), ("1 0 2\n\n", 1), ("\n1 0 2", 0)):
            with self.assertRaises(BadLine) as caught:
                texts.read_wish(COUNCIL, told)
            self.assertEqual(caught.exception.number, number)


class Lines(unittest.TestCase):
    """VOICES, SUMS and FOLLOWINGS: one line each."""

    def test_written_and_read(self):
        for seed, council in enumerate(SOUND[::9] + MADE[::3]):
            voice = reckoning.told_voice(council, samples.weights_for(council, seed))
            self.assertEqual(texts.voice_text(voice), " ".join(f"{a}/{b}" if b > 1 else str(a) for a, b in voice))
            self.assertEqual(texts.read_voice(council, texts.voice_text(voice)), voice)
            total = samples.total_for(council, seed)
            self.assertEqual(texts.sum_text(total), " ".join(map(str, total)))
            self.assertEqual(texts.read_sum(council, texts.sum_text(total)), total)
            for row in follows.all_followings(council)[:3]:
                self.assertEqual(texts.following_text(row), " ".join(map(str, row)))
                self.assertEqual(texts.read_following(council, texts.following_text(row)), row)

    def check(self, function, council, text):
        with self.assertRaises(BadText, msg=repr(text)) as caught:
            function(council, text)
        self.assertEqual(vars(caught.exception), {})

    def test_bad_texts(self):
        rows = {texts.read_voice: "5 0 1/2 -2", texts.read_sum: "0 1 -1 0", texts.read_following: "0 0 1 3"}
        for function, right in rows.items():
            self.assertIs(type(function(COUNCIL, right)), tuple)
            words = right.split(" ")
            for text in ("", "\n", right + "\n", "\n" + right, right + " ", " " + right, right.replace(" ", "  ", 1),
                         right.replace(" ", "\t", 1), " ".join(words[:-1]), right + " 0", right + "\r", right.replace(" ", ",")):
                self.check(function, COUNCIL, text)
            for place in range(4):
                for part in NO_NUMBERS:
                    if part != "5/1" or function is not texts.read_voice:
                        self.check(function, COUNCIL, " ".join(words[:place] + [part] + words[place + 1:]))
        self.check(texts.read_voice, COUNCIL, "5 0 2/4 -2")
        self.check(texts.read_voice, COUNCIL, "5 0 1/1 -2")
        self.check(texts.read_sum, COUNCIL, "0 1 1/2 0")

    def test_all_rows(self):
        """A FOLLOWING, and nothing else, is read as one."""
        council = (5, (0, 2), (0, 1, 3), -2)
        told = set(reckoning.followings(council))
        for number in range(5 ** 4):
            row = tuple(number // 5 ** k % 5 for k in range(4))
            if row in told:
                self.assertEqual(texts.read_following(council, " ".join(map(str, row))), row)
            else:
                self.check(texts.read_following, council, " ".join(map(str, row)))
        self.check(texts.read_following, council, "0 0 -1 3")

    def test_a_council_that_is_not_sound(self):
        council = (5, (2,), (1,))
        for text in ("0 2 1", "0 0 0", "0 1 2"):
            self.check(texts.read_following, council, text)
        self.assertEqual(texts.read_sum(council, "1 2 3"), (1, 2, 3))
        self.assertEqual(texts.read_voice(council, "1 2/3 3"), ((1, 1), (2, 3), (3, 1)))

    def test_a_voice_of_it_or_not(self):
        self.assertEqual(texts.read_voice((5, (0,)), "7 -1/3"), ((7, 1), (-1, 3)))

    def test_one_text_tells_one_thing(self):
        """The guarantee: what is read of a text has this text."""
        for text in ("council\nholds 0\n", "council\nasks 1\nholds -7\n", "council\nasks 1 2\nasks 0\nholds 3\n"):
            self.assertEqual(texts.council_text(texts.read_council(text)), text)
        for text in ("-\n1 2\n3 1 1\n-\n", "-\n9 9\n1 1 99\n-\n"):
            self.assertEqual(texts.weights_text(texts.read_weights(COUNCIL, text)), text)
        for text in ("", "1 0 0\n", "3 3 -1\n0 0 5\n"):
            self.assertEqual(texts.wish_text(texts.read_wish(COUNCIL, text)), text)
        self.assertEqual(texts.voice_text(texts.read_voice(COUNCIL, "-1/2 0 7 3/8")), "-1/2 0 7 3/8")


if __name__ == "__main__":
    unittest.main()
