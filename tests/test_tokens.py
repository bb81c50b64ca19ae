"""Promise [10]: tokens."""

import random
import re
import unittest

from givesifgets.tokens import token_places, tokens_of

PLAIN = re.compile("[ \n]+|#[^\n]*|([A-Za-z0-9_]+|.)", re.DOTALL)


def plain_spans(text):
    return [(found.start(), found.group(1)) for found in PLAIN.finditer(text) if found.group(1) is not None]


class Tokens(unittest.TestCase):
    def test_by_hand(self):
        for text, tokens, spots in (
                ("", (), ()), (" \n \n", (), ()), ("#", (), ()), ("# all of it", (), ()), ("a", ("a",), (0,)),
                ("kind 0:1;", ("kind", "0", ":", "1", ";"), (0, 5, 6, 7, 8)),
                ("ab#cd\nef", ("ab", "ef"), (0, 6)), ("ab#cd", ("ab",), (0,)), ("a #b\n;", ("a", ";"), (0, 5)),
                ("##\n#\n;;", (";", ";"), (5, 6)), ("_a0Z 00", ("_a0Z", "00"), (0, 5)), ("a-1", ("a", "-", "1"), (0, 1, 2)),
                ("a\tb\r\n", ("a", "\t", "b", "\r"), (0, 1, 2, 3)), ("\u00e9t\u00e9", ("\u00e9", "t", "\u00e9"), (0, 1, 2)),
                ("\u0661\u00b2", ("\u0661", "\u00b2"), (0, 1)), ("\u00a0\u2028\x0b\x00", ("\u00a0", "\u2028", "\x0b", "\x00"),
                                                                 (0, 1, 2, 3)),
                ("#\r;\n;", (";",), (4,)), ("#\u2028;\n!", ("!",), (4,)), ("\U0001f600a", ("\U0001f600", "a"), (0, 1))):
            self.assertEqual(tokens_of(text), tokens, repr(text))
            self.assertEqual(token_places(text), spots, repr(text))

    def test_drawn(self):
        rng = random.Random(7)
        signs = "ab01_ZzAy9 \n\n#;:.,-+/@[`{\t\r'\"\\\x7f\u00e9\u0416\u0663\u3000"
        for _ in range(3000):
            text = "".join(rng.choice(signs) for _ in range(rng.randint(0, 30)))
            spans = plain_spans(text)
            self.assertEqual(tokens_of(text=text), tuple(token for _, token in spans), repr(text))
            self.assertEqual(token_places(text=text), tuple(at for at, _ in spans), repr(text))

    def test_each_sign_alone(self):
        for code in list(range(400)) + [0x2028, 0x3000, 0xFF10, 0x1D7D8]:
            sign = chr(code)
            text = "a" + sign + "b"
            self.assertEqual(tokens_of(text), tuple(token for _, token in plain_spans(text)), code)

    def test_long_ones(self):
        for text in ("a" * 20000, ";" * 20000, "#" * 20000, " " * 20000, "a " * 10000):
            self.assertEqual(len(tokens_of(text)), len(plain_spans(text)))
