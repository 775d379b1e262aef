"""Promise 3: whether two rules tell the same of all numbers, and which is the least number where they don't."""

import itertools
import math
import random
import re
import unittest

from helper import EAST, GREATEST, NORTH, SOUTH, WEST, Unseen, made, row, told_again, word_of
from wordforms.rules import pl_read, pl_same

WRONG = -22
TOO_MUCH = -28
NO_RULE = -71


def ones(count, one="n = 1"):
    return " or ".join([one] * count)


class Case(unittest.TestCase):
    def answers(self, text, other, expected):
        with self.subTest(text=text, other=other):
            answer = pl_same(row(text), row(other))
            self.assertEqual(answer, expected)
            self.assertIs(type(answer), list)
            # True would be equal to 1.
            self.assertEqual([type(v) for v in answer], [int, int])

    def same(self, *texts):
        """Each of the rules against each, itself too."""
        for text, other in itertools.product(texts, repeat=2):
            self.answers(text, other, [0, 1])

    def differ(self, text, other, where):
        """Both ways about; that where is the least is told a second time by Python's own words."""
        self.answers(text, other, [2, where])
        self.answers(other, text, [2, where])
        form = told_again(text)
        other_form = told_again(other)
        self.assertEqual(next(x for x in range(20000) if form(x) != other_form(x)), where)

    def refused(self, text, other, refusal):
        self.answers(text, other, [0, refusal])


class Refusals(Case):
    FINE = ("", "a: n = 1;", EAST, "a: n % 9973 = 1;", "a: n % 73 = 1 and n != 5..9999;", "n" * 16 + ": n % 1 = 0;")
    RULES = (
        ("?", NO_RULE), ("a", NO_RULE), ("a: n = 1", NO_RULE), ("a: n = 1;;", NO_RULE), ("a: n = 10000;", NO_RULE),
        ("a: n ! = 1;", NO_RULE), ("abcdefghijklmnopq: n = 1;", NO_RULE), ("A: n = 1;", NO_RULE),
        ("n: n = 1;", WRONG), ("or: n = 1;", WRONG), ("and: n = 1;", WRONG), ("other: n = 1;", WRONG),
        ("a: n = 1; b: n = 2; a: n = 3;", WRONG),
        ("".join(f"{word}: n = 1;" for word in "abcdefghi"), TOO_MUCH),
        ("a: n = " + ",".join(["1"] * 65) + ";", TOO_MUCH), ("a: " + ones(65) + ";", TOO_MUCH),
        ("a: n = 1; b: n % 0 = 1;", WRONG), ("a: n % 0000 != 1;", WRONG),
        ("a: n = 1; b: n = 5..4;", WRONG), ("a: n % 137 = 1, 9999..0;", WRONG),
        ("a: n % 73 = 1; b: n % 137 = 1;", TOO_MUCH), ("a: n % 9999 = 1 or n % 2 != 1;", TOO_MUCH),
        ("a: n = 1;" + " " * 2040, TOO_MUCH), ("?" * 2049, TOO_MUCH), ("a" * 2100, TOO_MUCH),
        # Two are due here: what is named first is answered.
        ("other: n = 1 ?;", NO_RULE), ("a: n % 0 = 1; a: n;", NO_RULE),
        ("a: " + ones(65) + "; other: n = 1;", WRONG), ("a: " + ones(65, "n % 0 = 1") + ";", TOO_MUCH),
        ("a: n % 73 = 1; b: n % 137 = 1; c: n % 0 = 1;", WRONG), ("other: n % 0 = 1;" + "?" * 2040, TOO_MUCH),
    )

    def test_the_rules_are_what_they_are_taken_for(self):
        for text in self.FINE:
            self.assertGreaterEqual(pl_read(row(text))[1], 0, text)
        for text, refusal in self.RULES:
            self.assertEqual(pl_read(row(text)), [0, refusal], text)

    def test_t_alone(self):
        for text, refusal in self.RULES:
            for fine in self.FINE:
                self.refused(text, fine, refusal)

    def test_u_alone(self):
        for text, refusal in self.RULES:
            for fine in self.FINE:
                self.refused(fine, text, refusal)

    def test_both_at_once(self):
        for (text, refusal), (other, other_refusal) in itertools.product(self.RULES, repeat=2):
            self.refused(text, other, refusal)

    def test_the_same_refused_rule_as_both(self):
        for text, refusal in self.RULES:
            t = row(text)
            self.assertEqual(pl_same(t, t), [0, refusal])

    def test_a_fault_behind_the_least_number_that_differs(self):
        # 0 is settled by the first forms, yet both rules are read whole.
        for fault, refusal in (("b", NO_RULE), ("n: n = 2;", WRONG), ("b: n % 0 = 0;", WRONG), ("b: n = 2..1;", WRONG),
                               ("b: n % 101 = 1 or n % 100 = 1;", TOO_MUCH)):
            self.refused("a: n = 0; " + fault, "z: n = 0;", refusal)
            self.refused("z: n = 0;", "a: n = 0; " + fault, refusal)

    def test_2048_bytes_and_one_more(self):
        rule = "one: n = 1;"
        longest = rule + " " * (2048 - len(rule))
        self.same(rule, longest, "\n" * (2048 - len(rule)) + rule)
        self.differ(longest, " " * 2048, 1)
        self.refused(longest + " ", rule, TOO_MUCH)
        self.refused(rule, longest + " ", TOO_MUCH)
        self.refused(longest + " ", longest + " ", TOO_MUCH)

    def test_a_longer_row_is_not_looked_at(self):
        longer = Unseen([97] * 2049)
        self.assertEqual(pl_same(longer, row("a: n = 1;")), [0, TOO_MUCH])
        self.assertEqual(pl_same(row("a: n = 1;"), longer), [0, TOO_MUCH])
        self.assertEqual(pl_same(longer, longer), [0, TOO_MUCH])
        self.assertEqual(pl_same(longer, row("?")), [0, TOO_MUCH])
        self.assertEqual(pl_same(row("?"), longer), [0, NO_RULE])
        self.assertEqual(pl_same(row("n: n = 1;"), longer), [0, WRONG])
        with self.assertRaises(RuntimeError):
            pl_same(Unseen([97] * 2048), row(""))


class MultipleOfBoth(Case):
    def test_each_small_enough_by_itself(self):
        for by, other_by in ((73, 137), (137, 73), (100, 101), (101, 100), (9999, 2), (2, 9999), (5000, 32),
                             (9999, 9998), (4999, 3), (5001, 2), (3334, 9), (17, 589)):
            self.assertGreater(math.lcm(by, other_by), 10000)
            self.refused(f"a: n % {by} = 1;", f"a: n % {other_by} = 1;", TOO_MUCH)

    def test_10000_and_just_above_it(self):
        self.differ("a: n % 16 = 15;", "a: n % 625 = 15;", 31)
        self.differ("a: n % 16 = 0;", "a: n % 625 = 0;", 16)
        self.differ("a: n % 5000 = 4999;", "a: n % 16 = 16 or n % 5000 = 4999 and n % 16 = 7;", 9999)
        self.same("a: n % 5000 = 4999;", "a: n % 16 = 7, 15 and n % 5000 = 4999;")
        self.same("a: n % 16 = 16;", "a: n % 625 = 625;", "")
        # 10,001 is 73 by 137.
        self.refused("a: n % 73 = 73;", "a: n % 137 = 137;", TOO_MUCH)
        self.same("a: n % 73 = 73;", "a: n % 136 = 136;")

    def test_it_is_the_least_multiple_not_the_product(self):
        self.same("a: n % 9998 = 9998;", "a: n % 4999 = 4999;")
        self.same("a: n % 9999 = 1;", "a: n % 9999 = 1;")
        self.same("a: n % 2520 = 2520 or n % 1260 = 1260;", "a: n % 5040 = 5040 or n % 840 = 840;")
        self.same("a: n % 9999 = 9998 or n % 3333 = 3333;", "a: n % 9999 = 9998 and n % 1111 = 1110 and n % 101 = 100;")

    def test_all_numbers_behind_a_remainder_count(self):
        # 8 by 9 by 139 is 10,008; 8 by 9 by 137 is 9,864.
        for text in ("a: n % 8 = 1 and n % 9 = 1;", "a: n % 8 = 1 or n % 9 != 1;",
                     "a: n = 1; b: n % 8 = 1; c: n % 9 = 1;", "a: n % 9 = 1; b: n = 1 and n % 8 != 9;"):
            for other in ("a: n % {} = 1;", "a: n = 1 and n % {} != 1;", "b: n = 1 or n = 2; a: n != 1 or n % {} = 1;"):
                self.refused(text, other.format(139), TOO_MUCH)
                self.refused(other.format(139), text, TOO_MUCH)
                self.assertNotEqual(pl_same(row(text), row(other.format(137))), [0, TOO_MUCH])

    def test_it_is_refused_whatever_the_rules_tell(self):
        # The first two pairs would be the same of all, the last would differ at 0.
        self.refused("a: n % 73 = 99;", "a: n % 137 = 200;", TOO_MUCH)
        self.refused("a: n % 1 = 0 or n % 73 = 0;", "a: n % 1 = 0 or n % 137 = 0;", TOO_MUCH)
        self.refused("a: n = 0; b: n % 73 = 0;", "c: n = 0; b: n % 137 = 0;", TOO_MUCH)

    def test_u_is_refused_ahead_of_it(self):
        for text, refusal in (("a: n % 137 = 1", NO_RULE), ("n: n % 137 = 1;", WRONG), ("a: n % 137 = 2..1;", WRONG),
                              ("a: n % 137 = 1 or n % 0 = 1;", WRONG)):
            self.refused("a: n % 73 = 1;", text, refusal)
            self.refused(text, "a: n % 73 = 1;", refusal)


class SameOfAll(Case):
    def test_the_same_text_twice(self):
        for text in (EAST, SOUTH, WEST, NORTH, "", "a: n = 1;", "a: n != 9999;", "a: n % 9999 = 9998;",
                     "a: n % 16 = 15 and n % 625 = 624;", "a: n = 1 and n = 2;"):
            self.same(text)
            t = row(text)
            self.assertEqual(pl_same(t, t), [0, 1])

    def test_other_spaces_and_newlines(self):
        tokens = "a : n % 10 != 2 .. 4 , 5 and n = 8 or n % 100 = 0 ; b : n = 6 ;".split()
        self.same("a:n%10!=2..4,5and n=8or n%100=0;b:n=6;", " ".join(tokens), "\n".join(tokens),
                  " \n " + "  ".join(tokens) + "\n\n")

    def test_other_digits_of_the_same_numbers(self):
        self.same("a: n % 10 = 3, 5..7;", "a: n % 0010 = 0003, 05..007;")

    def test_by_other_ranges(self):
        self.same("a: n = 0..5;", "a: n = 0, 1, 2, 3, 4, 5;", "a: n = 3..5, 0..3;", "a: n = 0..2 or n = 3..5;",
                  "a: n = 0..9 and n != 6..9;", "a: n = 5, 5, 0..4, 2..3;", "a: n = 0..7 and n = 0..5;")
        self.same("a: n % 10 = 5..9;", "a: n % 10 != 0..4;", "a: n % 10 = 5..9999;", "a: n % 10 = 5, 6, 7..8, 9, 10;")

    def test_by_other_remainders(self):
        self.same("a: n % 2 = 0;", "a: n % 4 = 0, 2;", "a: n % 6 = 0, 2, 4;", "a: n % 2 != 1;",
                  "a: n % 10 = 0, 2, 4, 6, 8;")
        self.same("a: n % 6 = 0;", "a: n % 2 = 0 and n % 3 = 0;", "a: n % 12 = 0, 6;", "a: n % 3 = 0 and n % 2 != 1;")
        self.same("a: n % 15 = 4;", "a: n % 3 = 1 and n % 5 = 4;", "a: n % 30 = 4, 19;")
        self.same("a: n % 2 = 0 or n % 3 = 0;", "a: n % 6 = 0, 2..4;", "a: n % 6 != 1, 5;")

    def test_by_other_words_for_the_rest(self):
        self.same("a: n != 5;", "a: n = 0..4 or n != 0..5;", "a: n = 0..4, 6..9999 or n != 0..9999;")
        self.same("a: n = 0..9999 or n != 0..9999;", "a: n % 1 = 0;", "a: n != 1 or n != 2;", "a: n % 7 = 0..6;")

    def test_of_a_tongue(self):
        self.same(EAST, "many: n % 10 = 0, 5..9 or n % 100 = 11..14; one: n % 10 = 1; few: n % 10 = 2..4;",
                  "one: n % 100 = 1, 21, 31, 41, 51, 61, 71, 81, 91; few: n % 10 = 2..4 and n % 100 = 2..4, 22..99;"
                  "many: n % 1 = 0;")
        self.same(SOUTH, "zero: n = 0; one: n = 1; two: n = 2; many: n % 100 != 0..10; few: n % 100 != 0, 1, 2;")
        self.same(WEST, "one: n = 0 or n = 1;", "one: n = 0..1;")

    def test_two_empty_rules(self):
        self.same("", " ", "\n", " \n ", " " * 2048)

    def test_forms_that_hold_of_no_number(self):
        self.same("", "a: n = 1 and n = 2;", "a: n % 3 = 3;", "b: n % 3 = 3..9999; c: n % 1 != 0;",
                  "a: n % 2 = 0 and n % 4 = 1;", "a: n != 0..9999 and n = 0..9999;",
                  "a: n = 3 and n % 2 = 0 or n = 4 and n % 2 = 1;")
        self.same("a: n = 1;", "a: n = 1; b: n = 1;", "b: n = 1 and n != 1; a: n = 1;", "a: n = 1; b: n = 1; c: n = 1;")

    def test_forms_in_another_order(self):
        for text in (EAST, NORTH, "a: n = 0..4; b: n = 5..9; c: n = 10..9999; d: n != 0..9999;",
                     "a: n % 3 = 0; b: n % 3 = 1; c: n % 3 = 2;"):
            forms = [form + ";" for form in text.strip().split(";")[:-1]]
            for order in itertools.permutations(forms):
                self.answers(text, "".join(order), [0, 1])

    def test_both_turned_about(self):
        for parts in (["n % 10 = 1", "n % 100 != 11"], ["n % 2 = 0", "n % 3 != 0", "n = 0..100, 999"],
                      ["n != 3", "n != 4, 7..9", "n % 5 = 3..4", "n % 7 != 0"]):
            texts = ["a: " + " and ".join(order) + "; b: n % 4 = 1;" for order in itertools.permutations(parts)]
            self.same(*texts)

    def test_either_turned_about(self):
        for parts in (["n % 10 = 0", "n % 10 = 5..9", "n % 100 = 11..14"], ["n = 1 and n % 2 = 1", "n = 0"],
                      ["n != 0..99 and n % 3 = 1", "n = 5", "n % 8 = 2 and n != 10", "n = 99"]):
            texts = ["a: " + " or ".join(order) + "; b: n % 4 = 1;" for order in itertools.permutations(parts)]
            self.same(*texts)

    def test_ranges_turned_about(self):
        for start in ("n =", "n !=", "n % 10 =", "n % 10 !="):
            orders = itertools.permutations(["1", "3..5", "9"])
            self.same(*[f"a: {start} " + ", ".join(order) + ";" for order in orders])


class Different(Case):
    def test_the_answer_in_numbers(self):
        self.assertEqual(pl_same(row("one: n = 1;"), row("one: n = 1, 7;")), [2, 7])
        self.assertEqual(pl_same(row("one: n = 1;"), row("one: n = 1..1;")), [0, 1])

    def test_in_the_word_alone(self):
        self.differ("a: n = 1;", "b: n = 1;", 1)
        self.differ("a: n != 0..6;", "aa: n != 0..6;", 7)
        self.differ("one: n % 5 = 4;", "eno: n % 5 = 4;", 4)
        self.differ("a: n = 3; b: n = 5;", "b: n = 3; a: n = 5;", 3)
        self.differ("a: n = 3; b: n = 5;", "a: n = 3; c: n = 5;", 5)
        self.differ("others: n = 8;", "", 8)

    def test_in_the_last_letter_of_16(self):
        word = "abcdefghijklmno"
        self.same(word + "p: n = 2;")
        self.differ(word + "p: n = 2;", word + "q: n = 2;", 2)
        self.differ(word + "p: n = 2;", word + ": n = 2;", 2)
        self.differ("z" + word + ": n = 2;", "y" + word + ": n = 2;", 2)

    def test_the_word_counts_not_its_place(self):
        self.same("a: n = 1; b: n = 2;", "b: n = 2; a: n = 1;")
        self.differ("a: n = 1; b: n = 2;", "a: n = 2; b: n = 1;", 1)
        self.same("x: n = 1 and n = 2; a: n = 1; b: n = 2;", "a: n = 1; b: n = 2;")

    def test_at_0(self):
        self.differ("a: n = 0;", "", 0)
        self.differ("a: n = 0;", "b: n = 0;", 0)
        self.differ("a: n != 0;", "a: n % 1 = 0;", 0)
        self.differ("a: n % 10 = 0;", "a: n % 10 = 0 and n != 0;", 0)
        self.differ("a: n = 0..9999;", "a: n = 1..9999;", 0)
        self.same("a: n = 0;", "a: n = 0..0;", "a: n = 0..5 and n % 6 = 0;")

    def test_at_one_number_alone(self):
        for number in (0, 1, 2, 7, 58, 99, 100, 101, 501, 4999, 5000, 9998, 9999):
            self.differ("a: n % 1 = 0;", f"a: n != {number};", number)
            self.differ(f"z: n = {number};" + EAST, EAST, number)
            self.differ("", f"a: n = {number}..{number};", number)

    def test_at_one_number_alone_among_ranges(self):
        self.differ("a: n = 0..500, 502..9999;", "a: n = 0..9999;", 501)
        self.differ("a: n = 0..500, 502..9999;", "a: n = 0..501, 503..9999;", 501)

    def test_around_9999(self):
        self.differ("a: n = 0..9998;", "a: n = 0..9999;", 9999)
        self.differ("a: n = 9999;", "", 9999)
        self.differ("a: n != 9999;", "a: n % 1 = 0;", 9999)
        self.differ("a: n % 5000 = 4999;", "a: n = 4999;", 9999)
        self.differ("a: n = 9998..9999;", "a: n = 9999;", 9998)

    def test_at_10000_and_beyond_it(self):
        self.differ("a: n = 0..9999;", "a: n % 1 = 0;", 10000)
        self.differ("a: n != 0..9999;", "", 10000)
        self.differ("a: n % 5000 = 0;", "a: n = 0, 5000;", 10000)
        self.differ("a: n % 10 = 7;", "a: n % 10 = 7 and n = 0..9999;", 10007)
        self.differ("a: n != 0..9999 and n % 10 = 9;", "a: n = 0 and n = 1;", 10009)
        self.differ("a: n % 6000 = 5999;", "a: n = 5999;", 11999)
        self.differ("a: n % 9999 = 0;", "a: n = 0, 9999;", 19998)
        self.differ("a: n % 9998 = 0;", "a: n = 0, 9998;", 19996)

    def test_at_19999(self):
        both = "n % 16 = 15 and n % 625 = 624"
        self.differ(f"a: {both};", f"a: {both} and n = 0..9999;", 19999)
        self.differ(f"a: {both};", "a: n = 9999;", 19999)
        self.differ(f"a: n != 0..9999 and {both};", "", 19999)
        self.differ("a: n != 0..9999 and n % 5000 = 4999 and n % 16 = 15;", "b: n % 625 = 625;", 19999)
        self.same(f"a: {both};", "a: n % 5000 = 4999 and n % 16 = 15;")

    def test_behind_the_greatest_number_of_a_range(self):
        # The last number of the first whole period behind the range is the only one there that differs.
        for last in (0, 1, 5, 50, 99, 9999):
            for by in (1, 2, 3, 7, 60, 100, 997):
                self.differ(f"a: n != 0..{last} and n % {by} = {last % by};", "", last + by)
                self.differ(f"a: n % {by} = {last % by} and n != 0..{last}; b: n = 0..{last};", f"b: n = 0..{last};",
                            last + by)

    def test_the_period_is_that_of_both_together(self):
        # 41 is the last of the 42 numbers by 6 and 7 (or by 2, 3 and 7); 5 and 29 go the same way.
        self.differ("a: n % 6 = 5 and n % 7 = 6;", "", 41)
        self.differ("a: n % 6 = 5;", "a: n % 6 = 5 and n % 7 != 6;", 41)
        self.differ("a: n % 2 = 1 and n % 3 = 2;", "a: n % 6 = 5 and n % 7 != 6;", 41)
        self.differ("a: n % 6 = 5 and n % 10 = 9;", "", 29)
        self.differ("a: n = 0..29 and n % 6 = 5 and n % 10 = 9;", "a: n % 6 = 5 and n % 10 = 9;", 59)
        self.differ("a: n % 2 = 1;", "a: n % 2 = 1 and n % 3 != 2 or n % 2 = 1 and n % 5 != 4;", 29)

    def test_the_range_counts_in_whichever_rule_it_stands(self):
        self.differ("a: n = 0..40 and n % 3 = 0; b: n % 3 = 1;", "a: n % 3 = 0; b: n % 3 = 1;", 42)
        # 700 leaves 1 by 3, 702 leaves 0.
        self.same("a: n % 3 = 0;", "a: n % 3 = 0 and n != 700;")
        self.differ("a: n % 3 = 0;", "a: n % 3 = 0 and n != 702;", 702)
        self.differ("a: n % 3 = 0; b: n = 9000;", "b: n = 9000 and n % 2 = 0; a: n % 3 = 0;", 9000)

    def test_a_rule_against_the_empty_one(self):
        for text, where in ((EAST, 0), (SOUTH, 0), (WEST, 0), (NORTH, 1), ("a: n = 17;", 17), ("a: n != 0..16;", 17),
                            ("a: n % 99 = 98;", 98), ("a: n = 2..4 and n % 2 = 1;", 3)):
            self.differ(text, "", where)
            self.differ(text, " \n", where)

    def test_of_tongues(self):
        self.differ(EAST, NORTH, 0)
        self.differ(SOUTH, WEST, 0)
        self.differ(WEST, "one: n = 1;", 0)
        self.differ(EAST, EAST.replace("!= 11", "!= 12"), 11)
        self.differ(EAST, EAST.replace("12..14", "12..13"), 14)
        self.differ(EAST, EAST.replace("n % 100 = 11..14", "n = 11..14"), 111)
        self.differ(SOUTH, SOUTH.replace("11..99", "11..98"), 99)
        self.differ(SOUTH, SOUTH.replace("one: n = 1;", "one: n % 100 = 1;"), 101)

    def test_forms_in_another_order_where_numbers_have_two(self):
        self.differ("a: n = 1..3; b: n = 2..4;", "b: n = 2..4; a: n = 1..3;", 2)
        self.differ("a: n % 2 = 0; b: n % 3 = 2;", "b: n % 3 = 2; a: n % 2 = 0;", 2)
        self.differ("a: n % 2 = 1; b: n % 3 = 2; c: n % 5 = 4;", "c: n % 5 = 4; a: n % 2 = 1; b: n % 3 = 2;", 9)
        self.differ("a: n % 2 = 1; b: n % 3 = 2; c: n % 5 = 4;", "a: n % 2 = 1; c: n % 5 = 4; b: n % 3 = 2;", 14)


class Edges(Case):
    def test_by_1(self):
        self.same("a: n % 1 = 0;", "a: n % 1 != 1;", "a: n % 2 = 0, 1;", "a: n % 1 = 0..9999;", "a: n = 0 or n != 0;")
        self.same("a: n % 1 = 1;", "a: n % 1 != 0;", "", "b: n % 1 = 1..9999;")
        self.differ("a: n % 1 = 0;", "a: n % 1 = 1;", 0)
        self.differ("a: n % 1 = 0;", "a: n % 2 = 0;", 1)
        self.differ("a: n % 1 = 0 and n != 0..77;", "a: n % 1 != 0;", 78)

    def test_a_range_of_one(self):
        self.same("a: n = 5;", "a: n = 5..5;", "a: n = 4..6 and n = 5;", "a: n = 5, 5..5;")
        self.differ("a: n = 5..5;", "a: n = 5..6;", 6)
        self.differ("a: n = 5..5;", "a: n = 4..5;", 4)
        self.same("a: n = 9999;", "a: n = 9999..9999;")
        self.same("a: n % 8 != 7;", "a: n % 8 != 7..7;")

    def test_both_ends_of_a_range(self):
        for first, last in ((0, 0), (0, 4), (3, 3), (3, 9), (98, 9999), (9999, 9999)):
            if first > 0:
                self.differ(f"a: n = {first}..{last};", f"a: n = {first - 1}..{last};", first - 1)
                self.differ(f"a: n != {first}..{last};", f"a: n != {first - 1}..{last};", first - 1)
            if last < 9999:
                self.differ(f"a: n = {first}..{last};", f"a: n = {first}..{last + 1};", last + 1)
                self.differ(f"a: n != {first}..{last};", f"a: n != {first}..{last + 1};", last + 1)

    def test_unequal(self):
        self.same("a: n != 2, 5..7;", "a: n != 2 and n != 5..7;", "a: n = 0, 1, 3, 4 or n != 0..7;")
        self.differ("a: n != 2, 5..7;", "a: n != 2 or n != 5..7;", 2)
        self.differ("a: n = 5;", "a: n != 5;", 0)
        self.differ("a: n != 0;", "a: n = 1..9999;", 10000)
        self.differ("a: n % 4 != 3;", "a: n % 4 = 0..2 and n != 600;", 600)

    def test_9999_and_beyond(self):
        self.same("a: n = 0..9999; b: n % 1 = 0;", "b: n != 0..9999; a: n % 1 = 0;")
        self.same("a: n != 9999;", "a: n = 0..9998 or n != 0..9999;")
        self.same("a: n % 9999 = 9998;", "a: n % 9999 != 0..9997;")
        self.differ("a: n % 9999 = 1;", "a: n = 1;", 10000)

    def test_remainders_by_2_3_5_and_more(self):
        self.same("a: n % 2 = 0 and n % 3 = 0 and n % 5 = 0;", "a: n % 30 = 0;")
        self.same("a: n % 2 = 1 and n % 3 = 2 and n % 5 = 4;", "a: n % 30 = 29;")
        self.same("a: n % 2 = 1 and n % 3 = 2 and n % 5 = 4 and n % 7 = 6;", "a: n % 210 = 209;")
        self.same("a: n % 2 = 0 or n % 3 = 0 or n % 5 = 0;", "a: n % 30 != 1, 7, 11, 13, 17, 19, 23, 29;")
        self.differ("a: n % 2 = 1 and n % 3 = 2 and n % 5 = 4;", "", 29)
        self.differ("a: n % 2 = 1 and n % 3 = 2 and n % 5 = 4 and n % 7 = 6;", "", 209)
        self.differ("a: n % 2 = 1 and n % 3 = 2 and n % 5 = 4 and n % 7 = 6 and n % 11 = 10;", "", 2309)
        self.differ("a: n % 2 = 1 and n % 3 = 2 and n % 5 = 4 and n % 7 = 6 and n % 11 = 10 and n != 2309;", "", 4619)
        self.differ("a: n % 2 = 0 or n % 3 = 0 or n % 5 = 0;", "a: n % 30 != 1, 7, 11, 13, 17, 19, 23;", 29)
        # 8 by 9 by 5 by 7 is 2,520; with 11 it's too much.
        self.differ("a: n % 8 = 7 and n % 9 = 8;", "a: n % 8 = 7 and n % 9 = 8 and n % 35 != 34;", 2519)
        self.refused("a: n % 8 = 7 and n % 9 = 8;", "a: n % 5 = 4 and n % 7 = 6 and n % 11 = 10;", TOO_MUCH)

    def test_8_forms(self):
        words = ["zero", "one", "two", "three", "four", "five", "six", "seven"]
        forms = [f"{word}: n % 9 = {k};" for k, word in enumerate(words)]
        text = "".join(forms)
        self.same(text, "".join(reversed(forms)), "".join(forms[3:] + forms[:3]))
        self.differ(text, "".join(forms[:-1]), 7)
        self.differ(text, text.replace("seven", "eleven"), 7)
        self.differ(text, text.replace("= 7", "= 7, 8"), 8)
        self.differ(text, text.replace("= 7", "= 7 and n != 88"), 88)

    def test_64_ranges(self):
        singles = "a: n = " + ",".join(str(3 * k) for k in range(64)) + ";"
        self.same(singles, "a: " + " or ".join(f"n = {3 * k}" for k in range(63, -1, -1)) + ";",
                  "a: n % 3 = 0 and n = 0..191;")
        self.differ(singles, "a: n % 3 = 0;", 192)
        self.differ(singles, singles.replace(",189;", ",190;"), 189)
        self.differ(singles, singles.replace(",189;", ";"), 189)
        spread = "a: n != " + ",".join(str(100 * k) for k in range(64)) + ";"
        self.same(spread, "a: " + " and ".join(f"n != {100 * k}" for k in range(64)) + ";",
                  "a: n % 100 != 0 or n != 0..6300;")
        self.differ(spread, "a: n % 100 != 0;", 6400)

    def test_64_ranges_over_8_forms(self):
        forms = [f"{word}: n = " + ",".join(str(8 * k + j) for k in range(8)) + ";"
                 for j, word in enumerate("abcdefgh")]
        text = "".join(forms)
        self.same(text, "".join(reversed(forms)),
                  "".join(f"{word}: n % 8 = {j} and n = 0..63;" for j, word in enumerate("abcdefgh")))
        self.differ(text, text.replace(",63;", ",62;"), 63)
        self.differ(text, "".join(f"{word}: n % 8 = {j};" for j, word in enumerate("abcdefgh")), 64)


class AgainstForm(Case):
    """pl_same against pl_form, number by number."""

    def told(self, text, other):
        """pl_same's answer as where, or None for the same of all; both ways about it's the same answer."""
        answer = pl_same(row(text), row(other))
        self.assertEqual(pl_same(row(other), row(text)), answer)
        if answer == [0, 1]:
            return None
        self.assertEqual((answer[0], len(answer)), (2, 2))
        self.assertTrue(0 <= answer[1] < 20000)
        return answer[1]

    def agree(self, text, other, where, numbers):
        for number in numbers:
            alike = word_of(number, text) == word_of(number, other)
            self.assertEqual(alike, number != where, (text, other, number))

    def altered(self, chance, text):
        """The rule with one of its numbers or signs, or an "and" or "or", another; often still the same of all."""
        place = chance.choice(list(re.finditer(r"\d+|!?=|and|or", text)))
        old = place.group()
        if old.isdigit():
            new = str(max(0, int(old) + chance.choice([-1, 1])))
        else:
            new = {"=": "!=", "!=": "=", "and": "or", "or": "and"}[old]
        return text[:place.start()] + new + text[place.end():]

    def pair(self, chance, tops):
        """Two rules, made each by itself or one from the other; a gate keeps them from differing early."""
        text = made(chance, tops)
        if text == "" or chance.random() < 0.2:
            other = made(chance, tops)
        else:
            other = self.altered(chance, text)
        gate = chance.choice(["", f"gate: n = 0..{chance.randint(0, chance.choice(tops))};\n"])
        return (gate + text, gate + other)

    def pairs(self, chance, count, tops):
        """So many pairs of rules of which none is refused."""
        found = []
        while len(found) < count:
            text, other = self.pair(chance, tops)
            divisors = [int(by) for by in re.findall(r"% (\d+)", text + other)]
            if min(pl_read(row(other))) >= 0 and math.lcm(*divisors) <= 10000:
                found.append((text, other))
        return found

    def test_many_pairs(self):
        chance = random.Random(3)
        answers = []
        for text, other in self.pairs(chance, 150, (9, 30)):
            where = self.told(text, other)
            answers.append(where)
            if where is None:
                self.agree(text, other, None, range(120))
                self.agree(text, other, None, [chance.randint(0, GREATEST) for k in range(60)])
            else:
                self.agree(text, other, where, range(where + 1))
        self.assertGreater(answers.count(None), 20)
        self.assertGreater(len([where for where in answers if where is not None and where > 9]), 20)

    def test_many_pairs_by_pythons_own_words(self):
        chance = random.Random(4)
        answers = []
        for text, other in self.pairs(chance, 100, (30, 9999)):
            form = told_again(text)
            other_form = told_again(other)
            least = next((x for x in range(20000) if form(x) != other_form(x)), None)
            self.assertEqual(self.told(text, other), least, (text, other))
            answers.append(least)
        self.assertGreater(answers.count(None), 20)
        self.assertGreater(len([where for where in answers if where is not None and where > 1000]), 10)

    def test_number_by_number_up_to_19999(self):
        text = "a: n != 0..9999 and n % 16 = 15 and n % 625 = 624;"
        self.assertEqual(self.told(text, ""), 19999)
        self.agree(text, "", 19999, range(20000))


class WhatHolds(Case):
    TEXTS = (EAST, SOUTH, WEST, NORTH, "", "a: n % 1 = 0; b: n % 1 = 0;", "a: n = 1 or n = 1; b: n = 1..3;",
             "a: n != 0..99 and n % 12 = 11; b: n % 8 = 7; c: n = 5, 7, 50..60;")

    def test_each_number_has_just_one_form(self):
        for text in self.TEXTS:
            words = re.findall(r"(\w+):", text)
            # A new form of one number, put first, takes that number; put last, only if it had none.
            for number in (0, 1, 2, 5, 11, 99, 100, 111, 1023):
                self.assertEqual((words + ["other"]).count(word_of(number, text)), 1)
                self.differ(f"new: n = {number}; {text}", text, number)
                if word_of(number, text) == "other":
                    self.differ(f"{text} new: n = {number};", text, number)
                else:
                    self.same(f"{text} new: n = {number};", text)

    def test_the_same_of_all_beyond_any_end(self):
        chance = random.Random(5)
        far = [19999, 20000, 20001, 10 ** 6 + 1, 2 ** 31, 2 ** 32 - 1, 10 ** 18, GREATEST - 1, GREATEST]
        for text, other in (("a: n % 2 = 0 and n % 3 = 0;", "a: n % 6 = 0;"), (WEST, "one: n = 0..1;"),
                            (EAST, "one: n % 10 = 1 and n % 100 != 11; few: n % 10 = 2..4 and n % 100 != 12..14;"
                             "many: n % 1 = 0;"),
                            ("a: n = 0..9999; b: n % 7 = 3;", "b: n % 7 = 3 and n != 0..9999; a: n = 0..9999;")):
            self.same(text, other)
            for number in far + [chance.randint(0, GREATEST) for k in range(200)]:
                self.assertEqual(word_of(number, text), word_of(number, other))

    def test_what_differs_far_off_differs_below_20000(self):
        # Each pair differs at the number named; so a number below 20,000 is told.
        for text, other, far, where in (
                ("a: n % 10 = 7;", "a: n % 10 = 7 and n = 0..9999;", GREATEST, 10007),
                ("a: n % 8192 = 8191;", "a: n = 8191;", GREATEST, 16383),
                ("a: n % 16 = 0 and n % 625 = 0 and n != 0..9999;", "", 9223372036854770000, 10000),
                ("a: n % 9999 = 9998 and n != 9998;", "", 9999 * 10 ** 14 + 9998, 19997)):
            self.assertNotEqual(word_of(far, text), word_of(far, other))
            self.differ(text, other, where)

    def test_a_rule_is_the_same_as_itself_and_as_what_is_the_same_as_it(self):
        for text, other in itertools.product(self.TEXTS, repeat=2):
            answer = pl_same(row(text), row(other))
            self.assertEqual(answer, pl_same(row(other), row(text)))
            self.assertEqual(answer == [0, 1], text == other)


if __name__ == "__main__":
    unittest.main()
