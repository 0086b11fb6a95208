import re
import unittest

from samples import BARE, NO_MACHINES, RUN, SWING, Draw, chain, drawn_machine, drawn_machines, ring
from staytallies.errors import BadMachine, InvalidText
from staytallies.machines import Machine
from staytallies.texts import read, write

BIG = 10 ** 30
TEXT = "stands 3\nends 0\nstep 0 a 1 3\nstep 0 b 0 0\nstep 1 a 0 -3"
FULL = Machine(8, tuple((at, letter, 7 - at, BIG - at) for at in range(8) for letter in "abcd"), tuple(range(8)))
# White signs that are no spaces, and signs that look like digits to some.
WHITE = "\t\r\v\f\x00\x1c\x1d\x1e\x1f\x85\xa0\u2003\u2028\u2029\u3000\ufeff"
OTHER_DIGITS = ("\u0661", "\u00b2", "\uff13", "\u2460", "\u0967", "\U0001d7d9")


class Examples(unittest.TestCase):
    def test_the_examples(self):
        self.assertEqual(
            write(Machine(2, ((0, "a", 1, 3), (1, "a", 0, -3)), (0,))).split("\n"),
            ["stands 2", "ends 0", "step 0 a 1 3", "step 1 a 0 -3"],
        )
        with self.assertRaises(InvalidText) as caught:
            read("stands 2\nends 0\nstep 0 b 1 3\nstep 0 a 1 1")
        self.assertEqual((caught.exception.line, caught.exception.word), (4, 3))


class TextsTestCase(unittest.TestCase):
    def assert_wrong(self, text, line, word):
        with self.assertRaises(InvalidText, msg=text) as caught:
            read(text)
        self.assertEqual((caught.exception.line, caught.exception.word), (line, word), text)


class Writing(unittest.TestCase):
    def test_bad_machine(self):
        for value in NO_MACHINES + (TEXT,):
            with self.assertRaises(BadMachine):
                write(value)

    def test_texts(self):
        self.assertEqual(write(SWING), TEXT)
        self.assertEqual(write(BARE), "stands 1\nends")
        self.assertEqual(write(Machine(8, (), tuple(range(8)))), "stands 8\nends 0 1 2 3 4 5 6 7")
        self.assertEqual(write(Machine(1, ((0, "d", 0, -BIG),), ())), "stands 1\nends\nstep 0 d 0 -1" + "0" * 30)

    def test_the_kind_of_a_text(self):
        self.assertIs(type(write(SWING)), str)


class Reading(TextsTestCase):
    def test_what_was_written(self):
        for machine in (SWING, RUN, BARE, FULL, chain((BIG, -BIG)), ring((0,) * 8), Machine(8, (), ())):
            self.assertEqual(read(write(machine)), machine)
            self.assertIs(type(read(write(machine))), Machine)

    def test_drawn_machines(self):
        for machine in drawn_machines(80, 8, "abcd", BIG) + drawn_machines(80, 3, "ad", 2):
            text = write(machine)
            self.assertEqual(read(text), machine)
            self.assertEqual(write(read(text)), text)
            self.assertNotIn("  ", text)
            self.assertTrue(all(line == line.strip() for line in text.split("\n")))

    def test_more_spaces(self):
        self.assertEqual(read(" stands  3 \n   ends 0   \nstep 0   a 1 3\n step 0 b  0 0 \nstep 1 a 0    -3     "), SWING)
        self.assertEqual(read("stands 1\n ends "), BARE)
        self.assertEqual(read(" " * 500 + "stands" + " " * 500 + "1\nends"), BARE)
        self.assertEqual(read(TEXT.replace(" ", "   ").replace("\n", " \n ")), SWING)

    def test_equal_calls_give_equal_results(self):
        self.assertEqual(read(TEXT), read(TEXT))


class FirstLine(TextsTestCase):
    def test_texts_without_words(self):
        for text in ("", " ", "\n", "\n\n", "   \n", "\nstands 1\nends", "\n" + TEXT):
            self.assert_wrong(text, 1, 1)

    def test_the_first_word(self):
        for word in ("stand", "Stands", "STANDS", "stands2", "ends", "step", "2", "stands,", "-", "s"):
            self.assert_wrong(word + " 2\nends", 1, 1)
            self.assert_wrong(word, 1, 1)

    def test_the_number(self):
        for word in ("0", "9", "-1", "10", "+1", "01", "1_0", "1.0", "x", "-0", "00", "1e0", "stands", "0x1", "True"):
            self.assert_wrong(f"stands {word}\nends", 1, 2)
            self.assert_wrong(f"stands {word}", 1, 2)
        for many in range(1, 9):
            self.assertEqual(read(f"stands {many}\nends"), Machine(many, (), ()))

    def test_too_early_and_too_late(self):
        self.assert_wrong("stands\nends", 1, 2)
        self.assert_wrong("  stands  ", 1, 2)
        self.assert_wrong("stands 2 2\nends", 1, 3)
        self.assert_wrong("stands 2 ends", 1, 3)
        self.assert_wrong("stands 2 0 1 x", 1, 3)

    def test_texts_of_one_line(self):
        for text in ("stands 1", "stands 8", " stands  3 "):
            self.assert_wrong(text, 2, 1)
        self.assert_wrong("stands 9", 1, 2)
        self.assert_wrong(TEXT.replace("\n", " "), 1, 3)


class SecondLine(TextsTestCase):
    def test_the_first_word(self):
        for word in ("", "  ", "end", "Ends", "ends0", "0", "step 0 a 1 3", "stands 3", "\n", "\nends"):
            self.assert_wrong(f"stands 3\n{word}", 2, 1)

    def test_the_ends(self):
        for words, place in (
            ("3", 2), ("-1", 2), ("0 3", 3), ("0 0", 3), ("1 0", 3), ("0 1 2 3", 5), ("0 2 1", 4), ("2 2", 3),
            ("00", 2), ("-0", 2), ("+1", 2), ("0 x", 3), ("0 1 step", 4), ("0, 1", 2), ("1_0", 2), ("0 1 0", 4),
        ):
            self.assert_wrong(f"stands 3\nends {words}", 2, place)
            self.assert_wrong(f"stands 3\nends {words} 0\nstep x", 2, place)

    def test_the_ends_depend_on_the_stands(self):
        for stands in range(1, 9):
            text = f"stands {stands}\nends " + " ".join(str(end) for end in range(stands))
            self.assertEqual(read(text).ends, tuple(range(stands)))
            self.assert_wrong(f"{text} {stands}", 2, stands + 2)
            self.assert_wrong(f"stands {stands}\nends {stands}", 2, 2)


class StepLines(TextsTestCase):
    def test_each_word(self):
        for line, place in (
            ("step 0 a 1 3 0", 6), ("step 0 a 1 3 step 1 a 0 0", 6), ("step 0 a 1", 5), ("step 0 a", 4), ("step 0", 3),
            ("step", 2), ("", 1), ("   ", 1), ("Step 0 a 1 3", 1), ("0 a 1 3", 1), ("ends 0", 1), ("stands 3", 1),
            ("steps 0 a 1 3", 1), ("step 3 a 1 3", 2), ("step -1 a 1 3", 2), ("step a 0 1 3", 2), ("step 00 a 1 3", 2),
            ("step 0 e 1 3", 3), ("step 0 A 1 3", 3), ("step 0 aa 1 3", 3), ("step 0 ab 1 3", 3), ("step 0 0 1 3", 3),
            ("step 0 a 3 3", 4), ("step 0 a b 3", 4), ("step 0 a -0 3", 4), ("step 0 a +1 3", 4), ("step 0 a 01 3", 4),
            ("step 0 1 3", 3), ("step a 1 3", 2), ("step 0 a 1 x", 5), ("step 0 a 1 3.0", 5), ("step 0 a 1 - 3", 5),
            ("step 0  a 1 3 x", 6),
        ):
            self.assert_wrong(f"stands 3\nends 0\n{line}", 3, place)
            self.assert_wrong(f"stands 3\nends 0\n{line}\nx", 3, place)

    def test_gains(self):
        for word in (
            "+3", "03", "-03", "00", "-0", "+0", "-00", "3_0", "1_000", "_3", "3_", "--3", "-+3", "+-3", "-", "+", "3-",
            "1" + "0" * 29 + "1", "-1" + "0" * 29 + "1", "9" * 31, "-" + "9" * 31, "1" + "0" * 31, "0" * 40, "3.",
            "1e3", "0x3", "0b1", "3L", "inf", "nan", "None", "True", "a", "9" * 5000, "-" + "9" * 5000, "0" * 5000,
        ) + OTHER_DIGITS + tuple("-" + digit for digit in OTHER_DIGITS):
            self.assert_wrong(f"stands 1\nends\nstep 0 a 0 {word}", 3, 5)
        for gain in (0, 1, -1, 9, 10, -10, 100, BIG, -BIG, BIG - 1, 1 - BIG, 10 ** 29):
            self.assertEqual(read(f"stands 1\nends\nstep 0 a 0 {gain}"), Machine(1, ((0, "a", 0, gain),), ()))

    def test_other_digits_everywhere(self):
        for digit in OTHER_DIGITS:
            self.assert_wrong(f"stands {digit}\nends", 1, 2)
            self.assert_wrong(f"stands 8\nends 0 {digit}", 2, 3)
            self.assert_wrong(f"stands 8\nends\nstep {digit} a 0 0", 3, 2)
            self.assert_wrong(f"stands 8\nends\nstep 0 a {digit} 0", 3, 4)
            self.assert_wrong(f"stands 8\nends\nstep 0 a 0 1{digit}", 3, 5)

    def test_lines_that_do_not_ascend(self):
        head = "stands 3\nends\nstep 1 b 0 0\n"
        for line, place in (
            ("step 0 a 0 0", 2), ("step 0 c 0 0", 2), ("step 1 a 0 0", 3), ("step 1 b 0 0", 3), ("step 1 b 1 1", 3),
            ("step 0", 2), ("step 1", 3), ("step 1 a", 3), ("step 1 c", 4), ("step 0 x y z", 2), ("step 1 d 0", 5),
        ):
            self.assert_wrong(head + line, 4, place)
        for line in ("step 1 c 0 0", "step 1 d 0 0", "step 2 a 0 0", "step 2 b 0 0"):
            self.assertEqual(len(read(head + line).steps), 2)

    def test_the_line_ahead_counts_alone(self):
        head = "stands 3\nends\nstep 0 d 0 0\nstep 1 a 0 0\n"
        self.assert_wrong(head + "step 0 d 0 0", 5, 2)
        self.assert_wrong(head + "step 1 a 0 0", 5, 3)
        self.assertEqual(len(read(head + "step 1 b 0 0\nstep 2 a 0 0").steps), 4)

    def test_behind_the_last_letter(self):
        head = "stands 2\nends\nstep 0 d 0 0\n"
        self.assert_wrong(head + "step 0 a 0 0", 4, 3)
        self.assert_wrong(head + "step 0 d 0 0", 4, 3)
        self.assertEqual(len(read(head + "step 1 a 0 0").steps), 2)

    def test_blank_lines(self):
        self.assert_wrong(TEXT + "\n", 6, 1)
        self.assert_wrong(TEXT + "\n\n", 6, 1)
        self.assert_wrong(TEXT + "\n  ", 6, 1)
        self.assert_wrong("stands 1\nends\n", 3, 1)
        lines = TEXT.split("\n")
        for at in range(len(lines)):
            self.assert_wrong("\n".join(lines[:at] + [""] + lines[at:]), at + 1, 1)

    def test_lines_behind_the_last_one(self):
        for line in ("x", "ends 0", "stands 3", "step", "0"):
            self.assert_wrong(f"{TEXT}\n{line}", 6, 2 if line == "step" else 1)
        self.assert_wrong(write(FULL) + "\nstep 7 d 0 0", 35, 3)
        self.assert_wrong(write(FULL) + "\nstep 8 a 0 0", 35, 2)

    def test_lines_left_out(self):
        lines = TEXT.split("\n")
        self.assert_wrong("\n".join(lines[1:]), 1, 1)
        self.assert_wrong("\n".join(lines[:1] + lines[2:]), 2, 1)
        for at in (2, 3, 4):
            self.assertEqual(len(read("\n".join(lines[:at] + lines[at + 1:])).steps), 2)

    def test_lines_exchanged(self):
        lines = TEXT.split("\n")
        for order, line, word in (("10234", 1, 1), ("02134", 2, 1), ("01324", 4, 3), ("01243", 5, 2), ("01432", 4, 2)):
            self.assert_wrong("\n".join(lines[int(at)] for at in order), line, word)

    def test_other_white_signs(self):
        for sign in WHITE:
            self.assert_wrong(TEXT + sign, 5, 5)
            self.assert_wrong(sign + TEXT, 1, 1)
            self.assert_wrong(TEXT.replace("stands 3", f"stands{sign}3"), 1, 1)
            self.assert_wrong(TEXT.replace("stands 3", f"stands 3{sign}"), 1, 2)
            self.assert_wrong(TEXT.replace("stands 3", f"stands 3 {sign}"), 1, 3)
            self.assert_wrong(TEXT.replace("ends 0", f"ends {sign} 0"), 2, 2)
            self.assert_wrong(TEXT.replace("ends 0", f"ends{sign}"), 2, 1)
            self.assert_wrong(TEXT.replace("b 0 0", f"b{sign} 0 0"), 4, 3)
            self.assert_wrong(TEXT.replace("b 0 0", f"b 0{sign}0"), 4, 4)
            self.assert_wrong(TEXT.replace("\n", sign), 1, 2)


def is_number(word, least, most):
    return re.fullmatch("0|-?[1-9][0-9]*", word) is not None and least <= int(word) <= most


def slow_fault(text):
    """The first wrong line and word of a text, None if there is none: by the places of the words alone."""
    lines = [re.findall("[^ ]+", line) for line in text.split("\n")]
    if len(lines) == 1:
        lines.append([])
    stands = 0
    for index, words in enumerate(lines):
        for at in range(max(len(words), (2, 1)[index] if index < 2 else 5)):
            word = words[at] if at < len(words) else None
            before = words[:at]
            if index == 0:
                right = word == "stands" if at == 0 else at == 1 and word is not None and is_number(word, 1, 8)
            elif index == 1:
                right = word == "ends" if at == 0 else is_number(word, 0 if at == 1 else int(before[-1]) + 1, stands - 1)
            else:
                ahead = lines[index - 1] if index > 2 else ["step", "0", ""]
                right = word is not None and (
                    at == 0 and word == "step"
                    or at == 1 and is_number(word, int(ahead[1]), stands - 1)
                    or at == 2 and word in ("a", "b", "c", "d") and (before[1] > ahead[1] or word > ahead[2])
                    or at == 3 and is_number(word, 0, stands - 1)
                    or at == 4 and is_number(word, -BIG, BIG)
                )
            if not right:
                return (index + 1, at + 1)
        if index == 0:
            stands = int(words[1])
    return None


WORDS = (
    "stands", "ends", "step", "0", "1", "2", "3", "7", "8", "9", "a", "b", "c", "d", "e", "-1", "-0", "+1", "00", "01",
    "x", "A", "-", "1_0", "\t", "\r", str(BIG), str(BIG + 1), str(-BIG), str(-BIG - 1), "", "\n", "10", "-12", "3\n",
)


def changed(draw, text):
    """The text with one word or one line left out, put in, changed or exchanged with another one."""
    lines = [line.split(" ") for line in text.split("\n")]
    at = draw.below(len(lines))
    words = lines[at]
    change = draw.below(8)
    place = draw.below(len(words))
    if change == 0:
        del words[place]
    elif change == 1:
        words.insert(place, WORDS[draw.below(len(WORDS))])
    elif change == 2:
        words.append(WORDS[draw.below(len(WORDS))])
    elif change == 3:
        other = draw.below(len(words))
        words[place], words[other] = words[other], words[place]
    elif change == 4:
        del lines[at]
    elif change == 5:
        other = draw.below(len(lines))
        lines[at], lines[other] = lines[other], lines[at]
    else:
        words[place] = WORDS[draw.below(len(WORDS))]
    return "\n".join(" ".join(words) for words in lines)


class Changed(TextsTestCase):
    def check(self, text):
        fault = slow_fault(text)
        if fault is None:
            words = [" ".join(re.findall("[^ ]+", line)) for line in text.split("\n")]
            self.assertEqual(write(read(text)), "\n".join(words))
        else:
            self.assert_wrong(text, *fault)

    def test_changed_texts(self):
        draw = Draw(77)
        for _ in range(3000):
            text = changed(draw, write(drawn_machine(draw, 8, "abcd"[draw.below(3):], 12)))
            self.check(text)
            self.check(changed(draw, text))

    def test_all_beginnings(self):
        for text in (TEXT, write(RUN), write(Machine(3, ((2, "d", 2, -BIG),), (0, 1, 2)))):
            for many in range(len(text) + 1):
                self.check(text[:many])

    def test_one_sign_in_the_place_of_each(self):
        for at in range(len(TEXT)):
            for sign in ("", "0", "1", "3", "9", "a", "b", "d", "-", "+", "_", " ", "\n", "\t", "\u0661", "  "):
                self.check(TEXT[:at] + sign + TEXT[at + 1:])
                self.check(TEXT[:at] + sign + TEXT[at:])


if __name__ == "__main__":
    unittest.main()
