"""Promise 1: which bytes can be parted, and which tokens are a rule.

The grammar repeats but never nests, so a regular expression over one sign a token says it a second time.
"""

import itertools
import re
import unittest

from helper import row
from wordforms.rules import pl_read, read_rule, tokens_of

NO_RULE = -71

SIGNS = {"n": "n", "or": "o", "and": "a", "..": "-", "!=": "!"}
RANGE = "1(-1)?"
ONE = f"n(%1)?[=!]{RANGE}(,{RANGE})*"
BOTH = f"{ONE}(a{ONE})*"
EITHER = f"{BOTH}(o{BOTH})*"
RULE = re.compile(f"([wnoa]:{EITHER};)*")


def sign(token):
    if token in SIGNS:
        return SIGNS[token]
    if token.isdigit():
        return "1"
    return "w" if token.isalpha() else token


def is_rule(tokens):
    return RULE.fullmatch("".join(sign(token) for token in tokens)) is not None


class Tokens(unittest.TestCase):
    def parts(self, text, expected):
        with self.subTest(text=text):
            tokens = tokens_of(row(text))
            if tokens is not None:
                tokens = ["".join(map(chr, token)) for token in tokens]
            self.assertEqual(tokens, expected)

    def test_every_token_by_itself(self):
        for text in (":", ";", ",", "..", "=", "!=", "%", "0", "9999", "a", "z", "n", "or", "and", "other", "z" * 16):
            self.parts(text, [text])
            self.parts(" " + text + "\n", [text])

    def test_as_long_as_can_be(self):
        self.parts("!==", ["!=", "="])
        self.parts("=!=", ["=", "!="])
        self.parts("==", ["=", "="])
        self.parts("....", ["..", ".."])
        self.parts("::;;", [":", ":", ";", ";"])
        self.parts("n1", ["n", "1"])
        self.parts("1n", ["1", "n"])
        self.parts("1..2", ["1", "..", "2"])
        self.parts("a1b22", ["a", "1", "b", "22"])
        self.parts("1 2", ["1", "2"])
        self.parts("nor", ["nor"])
        self.parts("abcdefghijklmnop1234abcdefghijklmnop", ["abcdefghijklmnop", "1234", "abcdefghijklmnop"])
        self.parts("a b", ["a", "b"])

    def test_what_can_not_be_parted(self):
        for text in (".", "...", "!", "! =", ". .", "!!=", "a.b", "1.2", "=!", "..!", "-1", "A", "aB", "a_b", "1e+5",
                     "\t", "\r\n", "\x00", "\xff", "\xe4", "`", "{", "/", "@", "<", ">", "&", "|", "(n)", "#", "'n'"):
            self.parts(text, None)
            self.parts("a: n = 1; " + text, None)
            self.parts(text + " a: n = 1;", None)

    def test_runs_that_are_too_long(self):
        for text in ("a" * 17, "a" * 18, "a" * 32, "a" * 33, "1" * 5, "1" * 8, "0" * 9):
            self.parts(text, None)
            self.parts("1 " + text + " a", None)
            self.parts("a " + text + " 1", None)
            self.parts(":" + text + ":", None)

    def test_every_byte_by_itself(self):
        whole = [*range(97, 123), *range(48, 58), *row(":;,=%")]
        for byte in range(256):
            with self.subTest(byte=byte):
                expected = [(byte,)] if byte in whole else None
                self.assertEqual(tokens_of([byte]), [] if byte in (10, 32) else expected)

    def test_every_two_bytes(self):
        token = re.compile(rb"[a-z]+|[0-9]+|[:;,=%]|\.\.|!=")
        for pair in itertools.product(range(256), repeat=2):
            text = bytes(pair)
            left = token.sub(b"", text).strip(b" \n")
            found = [tuple(part) for part in token.findall(text)] if left == b"" else None
            self.assertEqual(tokens_of(list(pair)), found, text)


class Grammar(unittest.TestCase):
    # Each place of the grammar stands here at least once, with its optional parts and without.
    TOKENS = ("one : n = 1 ; two : n % 10 != 2 .. 4 , 5 , 6 .. 7 and n = 8 , 9 .. 9 or "
              "n % 100 = 0 or n != 3 and n % 5 = 1 .. 2 ; few : n = 6 ;").split()
    PUT = ("x", "n", "or", "and", "other", "1", ":", ";", ",", "..", "=", "!=", "%")

    def agrees(self, tokens):
        answer = pl_read(row(" ".join(tokens)))
        self.assertEqual(answer[0], 0)
        self.assertEqual(answer[1] != NO_RULE, is_rule(tokens), " ".join(tokens))

    def test_the_whole(self):
        self.assertEqual(pl_read(row(" ".join(self.TOKENS))), [0, 3])
        self.agrees(self.TOKENS)

    def test_cut_off_at_each_place(self):
        ends = [k for k in range(len(self.TOKENS) + 1) if k == 0 or self.TOKENS[k - 1] == ";"]
        for k in range(len(self.TOKENS) + 1):
            with self.subTest(k=k):
                answer = pl_read(row(" ".join(self.TOKENS[:k])))
                self.assertEqual(answer, [0, ends.index(k) if k in ends else NO_RULE])
            self.agrees(self.TOKENS[k:])

    def test_left_out_at_each_place(self):
        for k in range(len(self.TOKENS)):
            for end in range(k + 1, min(k + 4, len(self.TOKENS)) + 1):
                self.agrees(self.TOKENS[:k] + self.TOKENS[end:])

    def test_put_in_at_each_place(self):
        for k in range(len(self.TOKENS) + 1):
            for token in self.PUT:
                self.agrees(self.TOKENS[:k] + [token] + self.TOKENS[k:])

    def test_another_at_each_place(self):
        for k in range(len(self.TOKENS)):
            for token in self.PUT:
                self.agrees(self.TOKENS[:k] + [token] + self.TOKENS[k + 1:])

    def test_turned_about_at_each_place(self):
        for k in range(len(self.TOKENS) - 1):
            self.agrees(self.TOKENS[:k] + [self.TOKENS[k + 1], self.TOKENS[k]] + self.TOKENS[k + 2:])

    def test_every_short_row_of_tokens(self):
        for size in range(5):
            for tokens in itertools.product(self.PUT, repeat=size):
                self.agrees(list(tokens))

    def test_every_short_ending(self):
        for start in ("a :", "a : n", "a : n %", "a : n % 2", "a : n =", "a : n != 1", "a : n = 1 ..",
                      "a : n = 1 .. 2", "a : n = 1 ,", "a : n = 1 and", "a : n = 1 or", "a : n = 1 ;"):
            for size in range(4):
                for tokens in itertools.product(self.PUT, repeat=size):
                    self.agrees(start.split() + list(tokens))

    def test_every_short_middle(self):
        for size in range(5):
            for tokens in itertools.product(self.PUT, repeat=size):
                self.agrees(["a", ":", "n", *tokens, "1", ";"])

    def test_wrong_rules_by_name(self):
        for text in ("a", "a:", "a:;", "a: n;", "a: n =;", "a: n = 1", "a: n = 1,;", "a: n = 1..;", "a: n = ..1;",
                     "a: n = 1..2..3;", "a: n %;", "a: n % = 1;", "a: n % 2;", "a: n % 2 3 = 1;", "a: n % m = 1;",
                     "a: n % 2 % 3 = 1;", "a: n = 1 and;", "a: and n = 1;", "a: n = 1 or;", "a: or n = 1;",
                     "a: n = 1 and or n = 2;", "a: n = 1 n = 2;", "a: n = 1 and 2;", "a: n = 1 or 2;", "a: m = 1;",
                     "a: x % 2 = 1;", "a: 1 = n;", "a: n = n;", "a: n == 1;", "a: n = = 1;", "a: n = != 1;",
                     "a n = 1;", "a:: n = 1;", ": n = 1;", "1: n = 1;", "n = 1;", ";", "a: n = 1;;", ";a: n = 1;",
                     "a: n = 1; b", "a: n = 1; b:", "a: n = 1; b: n = 2", "a: n = 1: b: n = 2;", "a, b: n = 1;",
                     "a: n = 1 , and n = 2;", "a: n, n = 1;", "a: n = b;", "a: b;", "a: 1;", "a: other;", "other: ;"):
            with self.subTest(text=text):
                self.assertEqual(pl_read(row(text)), [0, NO_RULE])


class WhatIsRead(unittest.TestCase):
    def test_the_parts_of_a_rule(self):
        text = "ab: n = 1, 20..34 and n % 10 != 5 or n != 0..9999; c: n % 0007 = 0012;"
        self.assertEqual(read_rule(row(text)), [
            ((97, 98), [[(None, True, [(1, 1), (20, 34)]), (10, False, [(5, 5)])], [(None, False, [(0, 9999)])]]),
            ((99,), [[(7, True, [(12, 12)])]]),
        ])


if __name__ == "__main__":
    unittest.main()
