"""Promise 1: what pl_read answers, and in which order its refusals come."""

import unittest

from helper import Unseen, row
from wordforms.rules import pl_read

WRONG = -22
TOO_MUCH = -28
NO_RULE = -71


def ranges(count):
    return ",".join(["1"] * count)


def forms(count):
    return "".join(f"{'abcdefghijkl'[k]}:n={k};" for k in range(count))


class Case(unittest.TestCase):
    def reads(self, text, expected):
        with self.subTest(text=text):
            answer = pl_read(row(text))
            self.assertEqual(answer, [0, expected])
            self.assertIs(type(answer), list)
            self.assertEqual([type(v) for v in answer], [int, int])


class OrdinaryRules(Case):
    def test_one_form(self):
        self.reads("one: n = 1;", 1)

    def test_several_forms(self):
        self.reads("one: n = 1; few: n = 2..4;", 2)
        self.reads(
            "one: n % 10 = 1 and n % 100 != 11;\n"
            "few: n % 10 = 2..4 and n % 100 != 12..14;\n"
            "many: n % 10 = 0 or n % 10 = 5..9 or n % 100 = 11..14;\n", 3)
        self.reads(
            "zero: n = 0; one: n = 1; two: n = 2; few: n % 100 = 3..10; many: n % 100 = 11..99;", 5)

    def test_equal_and_unequal(self):
        self.reads("a: n = 1;", 1)
        self.reads("a: n != 1;", 1)
        self.reads("a: n % 7 = 1;", 1)
        self.reads("a: n % 7 != 1;", 1)

    def test_ranges_of_one_number_and_of_two(self):
        self.reads("a: n = 1, 3..5, 9, 11..11;", 1)
        self.reads("a: n != 1..2, 7;", 1)

    def test_and_or(self):
        self.reads("a: n = 1 and n = 2;", 1)
        self.reads("a: n = 1 or n = 2;", 1)
        self.reads("a: n = 1 and n = 2 or n = 3 and n = 4 and n = 5 or n = 6;", 1)
        self.reads("a: n = 1, 2 and n % 3 = 0..1, 2 or n != 4, 5..6;", 1)

    def test_a_remainder_may_be_beyond_its_divisor(self):
        self.reads("a: n % 3 = 3..9999;", 1)

    def test_a_form_may_bear_a_word_that_begins_like_another(self):
        self.reads("nn:n=1; orr:n=1; an:n=1; others:n=1; o:n=1; othe:n=1; andn:n=1; a:n=1;", 8)


class BetweenTokens(Case):
    def test_nothing_where_nothing_is_needed(self):
        self.reads("one:n%10=1,3..5and n!=7or n=9;two:n=2;", 2)
        self.reads("a:n=1or n=2and n=3;", 1)

    def test_spaces_and_newlines_everywhere(self):
        tokens = ["a", ":", "n", "%", "10", "!=", "1", "..", "2", ",", "3", "and", "n", "=", "4", "or",
                  "n", "=", "5", ";", "b", ":", "n", "=", "6", ";"]
        for gap in (" ", "\n", "  ", "\n\n", " \n ", "\n \n"):
            self.reads(gap.join(tokens), 2)
            self.reads(gap + gap.join(tokens) + gap, 2)

    def test_a_gap_ends_a_token(self):
        self.reads("a:n=1 2;", NO_RULE)
        self.reads("a b:n=1;", NO_RULE)
        self.reads("a:n! =1;", NO_RULE)
        self.reads("a:n=1. .2;", NO_RULE)
        self.reads("a:n=1\n2;", NO_RULE)

    def test_words_grow_together_without_a_gap(self):
        self.reads("a:n=1 orn=2;", NO_RULE)
        self.reads("a:n=1 andn=2;", NO_RULE)

    def test_no_other_byte_is_a_gap(self):
        for byte in range(256):
            answer = 1 if byte in (10, 32) else NO_RULE
            with self.subTest(byte=byte):
                self.assertEqual(pl_read(row("a:") + [byte] + row("n=1;")), [0, answer])


class EmptyRule(Case):
    def test_an_empty_rule_has_no_form(self):
        self.reads("", 0)

    def test_gaps_alone_are_an_empty_rule(self):
        self.reads(" ", 0)
        self.reads("\n", 0)
        self.reads(" " * 2048, 0)


class Length(Case):
    def test_2048_bytes_are_read(self):
        rule = "one: n = 1; two: n = 2;"
        self.reads(rule + " " * (2048 - len(rule)), 2)
        self.reads(" " * (2048 - len(rule)) + rule, 2)
        self.reads("\n" * 2047 + "?", NO_RULE)

    def test_2049_bytes_are_too_much(self):
        rule = "one: n = 1; two: n = 2;"
        self.reads(rule + " " * (2049 - len(rule)), TOO_MUCH)
        self.reads(" " * 2049, TOO_MUCH)
        self.reads(" " * 2100, TOO_MUCH)

    def test_a_longer_row_is_not_looked_at(self):
        self.assertEqual(pl_read(Unseen([97] * 2049)), [0, TOO_MUCH])
        with self.assertRaises(RuntimeError):
            pl_read(Unseen([97] * 2048))


class Words(Case):
    def test_16_letters_are_a_word(self):
        self.reads("abcdefghijklmnop: n = 1;", 1)
        self.reads("z" * 15 + ": n = 1;", 1)
        self.reads("z" * 16 + ": n = 1;", 1)

    def test_17_letters_are_none(self):
        self.reads("abcdefghijklmnopq: n = 1;", NO_RULE)
        self.reads("z" * 32 + ": n = 1;", NO_RULE)

    def test_every_small_letter_and_no_other_byte(self):
        for byte in range(256):
            # A gap or a ";" ahead of the ":" leaves no word there.
            answer = 1 if 97 <= byte <= 122 and byte != 110 else NO_RULE
            if byte == 110:
                answer = WRONG
            with self.subTest(byte=byte):
                self.assertEqual(pl_read([byte] + row(":n=1;")), [0, answer])

    def test_words_that_are_no_forms(self):
        for word in ("n", "or", "and", "other"):
            self.reads(word + ": n = 1;", WRONG)
            self.reads("a: n = 1; " + word + ": n = 1; b: n = 2;", WRONG)
            self.reads("a: n = 1; b: n = 2 or n = 3;" + word + ":n=1;", WRONG)

    def test_a_form_there_twice(self):
        self.reads("a: n = 1; a: n = 2;", WRONG)
        self.reads("a: n = 1; a: n = 1;", WRONG)
        self.reads("a: n = 1; b: n = 2; c: n = 3; a: n = 4;", WRONG)
        self.reads("b: n = 1; c: n = 2; aaaaaaaaaaaaaaaa: n = 3; aaaaaaaaaaaaaaaa: n = 4;", WRONG)

    def test_words_that_differ_in_one_letter(self):
        self.reads("aaaaaaaaaaaaaaaa: n = 3; aaaaaaaaaaaaaaab: n = 4; aaaaaaaaaaaaaaa: n = 5;", 3)
        self.reads("ab: n = 1; ba: n = 2;", 2)


class Numbers(Case):
    def test_4_digits_are_a_number(self):
        self.reads("a: n = 9999;", 1)
        self.reads("a: n = 0000;", 1)
        self.reads("a: n = 0..9999;", 1)
        self.reads("a: n % 9999 = 0;", 1)
        self.reads("a: n % 0001 = 0;", 1)

    def test_5_digits_are_none(self):
        self.reads("a: n = 10000;", NO_RULE)
        self.reads("a: n = 00001;", NO_RULE)
        self.reads("a: n = 0..10000;", NO_RULE)
        self.reads("a: n = 00000..1;", NO_RULE)
        self.reads("a: n % 00010 = 0;", NO_RULE)
        self.reads("a: n = 12345678;", NO_RULE)

    def test_every_digit_and_no_other_byte(self):
        for byte in range(256):
            answer = 1 if 48 <= byte <= 57 else NO_RULE
            with self.subTest(byte=byte):
                self.assertEqual(pl_read(row("a:n=") + [byte] + row(";")), [0, answer])

    def test_numbers_are_read_by_their_value(self):
        self.reads("a: n = 0009..10;", 1)
        self.reads("a: n = 9..0010;", 1)
        self.reads("a: n = 10..0009;", WRONG)
        self.reads("a: n = 1234..1233;", WRONG)
        self.reads("a: n = 1234..1234;", 1)
        self.reads("a: n = 2000..1999;", WRONG)
        self.reads("a: n = 1999..2000;", 1)


class FormsAndRanges(Case):
    def test_up_to_8_forms(self):
        for count in range(9):
            self.reads(forms(count), count)

    def test_9_forms_are_too_many(self):
        self.reads(forms(9), TOO_MUCH)
        self.reads(forms(12), TOO_MUCH)

    def test_64_ranges(self):
        self.reads("a: n = " + ranges(63) + ";", 1)
        self.reads("a: n = " + ranges(64) + ";", 1)
        self.reads("a: n = " + ",".join(["1..2"] * 64) + ";", 1)
        self.reads("a: " + " or ".join(["n = 1"] * 64) + ";", 1)
        self.reads("a: " + " and ".join(["n != 1"] * 64) + ";", 1)

    def test_65_ranges_are_too_many(self):
        self.reads("a: n = " + ranges(65) + ";", TOO_MUCH)
        self.reads("a: n = " + ",".join(["1..2"] * 65) + ";", TOO_MUCH)
        self.reads("a: " + " or ".join(["n = 1"] * 65) + ";", TOO_MUCH)
        self.reads("a: " + " and ".join(["n != 1"] * 65) + ";", TOO_MUCH)

    def test_ranges_count_over_all_forms(self):
        self.reads("a: n = " + ranges(32) + "; b: n != " + ranges(32) + ";", 2)
        self.reads("a: n = " + ranges(32) + "; b: n != " + ranges(33) + ";", TOO_MUCH)
        self.reads("a: n = " + ranges(20) + " and n = " + ranges(20) + " or n = " + ranges(20) + ";b: n=1..2,3,4,5;", 2)
        self.reads("a: n = " + ranges(20) + " and n = " + ranges(20) + " or n = " + ranges(20) + ";b: n=1..2,3,4,5,6;",
                   TOO_MUCH)

    def test_a_long_rule_is_gone_through(self):
        self.reads("a:n=" + "1," * 1021 + "1;", TOO_MUCH)
        self.reads("a:" + "n=1or " * 340 + "n=1;", TOO_MUCH)
        self.reads("a:" + "n=1and " * 290 + "n=1;", TOO_MUCH)
        self.reads("a:n=1;" * 341, WRONG)
        self.reads(";" * 2048, NO_RULE)
        self.reads("a:" * 1024, NO_RULE)
        self.reads("n " * 1024, NO_RULE)


class ZeroAndBack(Case):
    def test_a_0_behind_the_percent_sign(self):
        self.reads("a: n % 0 = 0;", WRONG)
        self.reads("a: n % 0000 = 0;", WRONG)
        self.reads("a: n % 0 != 5;", WRONG)
        self.reads("a: n % 2 = 1; b: n = 1 or n = 2 and n % 0 = 1;", WRONG)

    def test_by_1(self):
        self.reads("a: n % 1 = 0;", 1)
        self.reads("a: n % 1 != 0;", 1)

    def test_a_0_elsewhere(self):
        self.reads("a: n = 0;", 1)
        self.reads("a: n % 10 = 0;", 1)
        self.reads("a: n = 0..0;", 1)

    def test_a_range_of_one(self):
        self.reads("a: n = 5..5;", 1)

    def test_a_range_that_goes_back(self):
        self.reads("a: n = 5..4;", WRONG)
        self.reads("a: n = 1..0;", WRONG)
        self.reads("a: n != 9999..0;", WRONG)
        self.reads("a: n = 1, 2..3, 5..4, 6;", WRONG)
        self.reads("a: n = 1; b: n = 1 and n = 2 or n % 3 = 2..1;", WRONG)


class LeastMultiple(Case):
    def by(self, *divisors):
        return " or ".join(f"n % {k} = 0" for k in divisors)

    def test_10000_is_taken(self):
        self.reads("a: n % 16 = 1 and n % 625 = 1;", 1)
        self.reads("a: n % 625 = 1 or n % 16 = 1;", 1)
        self.reads("a: n % 16 = 1; b: n % 625 != 1;", 2)
        self.reads("a: " + self.by(5000, 2500, 1000, 400, 80, 16) + ";", 1)

    def test_more_than_10000_is_too_much(self):
        self.reads("a: n % 73 = 1 and n % 137 = 1;", TOO_MUCH)
        self.reads("a: n % 137 = 1 or n % 73 = 1;", TOO_MUCH)
        self.reads("a: n % 73 = 1; b: n % 137 != 1;", TOO_MUCH)
        self.reads("a: n % 9999 = 1; b: n % 2 = 1;", TOO_MUCH)
        self.reads("a: n % 9999 = 1; b: n % 9998 = 1;", TOO_MUCH)
        self.reads("a: n % 100 = 1; b: n % 101 = 1;", TOO_MUCH)

    def test_it_is_the_least_one(self):
        self.reads("a: " + self.by(9999, 9999, 9999) + ";", 1)
        self.reads("a: " + self.by(9999, 3333, 1111, 9, 11, 101, 1) + ";", 1)
        self.reads("a: " + self.by(4, 6, 9, 8, 10, 12, 100, 1000) + ";", 1)
        self.reads("a: " + self.by(2, 3, 4, 5, 6, 7, 8, 9, 10) + ";", 1)
        self.reads("a: " + self.by(2, 3, 4, 5, 6, 7, 8, 9, 10, 11) + ";", TOO_MUCH)

    def test_three_together_where_two_are_not_too_much(self):
        self.reads("a: n % 100 = 1; b: n % 99 = 1;", 2)
        self.reads("a: n % 100 = 1; b: n % 7 = 1;", 2)
        self.reads("a: n % 99 = 1; b: n % 7 = 1;", 2)
        self.reads("a: n % 100 = 1; b: n % 99 = 1; c: n % 7 = 1;", TOO_MUCH)

    def test_numbers_of_ranges_do_not_count(self):
        self.reads("a: n = 9999, 9998, 9997; b: n % 2 = 9999;", 2)

    def test_many_divisors(self):
        primes = [9973, 9967, 9949, 9941, 9931, 9929, 9923, 9907]
        self.reads("a: " + self.by(*(primes * 8)) + ";", TOO_MUCH)
        self.reads("a: " + self.by(*([9973] * 64)) + ";", 1)


class OrderOfRefusals(Case):
    # One fault of each kind, as a form of its own, so that any of them can stand before or behind any other.
    UNPARTED = ("p: n = 1 ?;", NO_RULE)
    UNRULED = ("q: n 1;", NO_RULE)
    NO_FORM = ("or: n = 1;", WRONG)
    TWICE = ("r: n = 1; r: n = 1;", WRONG)
    MANY_FORMS = (forms(9), TOO_MUCH)
    MANY_RANGES = ("s: n = " + ranges(65) + ";", TOO_MUCH)
    ZERO = ("t: n % 0 = 1;", WRONG)
    BACK = ("u: n = 2..1;", WRONG)
    MULTIPLE = ("v: n % 73 = 1 and n % 137 = 1;", TOO_MUCH)

    STEPS = ((UNPARTED, UNRULED), (NO_FORM, TWICE), (MANY_FORMS, MANY_RANGES), (ZERO, BACK), (MULTIPLE,))

    def test_each_by_itself(self):
        for step in self.STEPS:
            for text, refusal in step:
                self.reads(text, refusal)
                self.reads("x: n = 1;" + text + "y: n = 2;", refusal)

    def test_the_one_named_first_is_answered_wherever_it_stands(self):
        for k, step in enumerate(self.STEPS):
            for later_step in self.STEPS[k + 1:]:
                for text, refusal in step:
                    for later, ignored in later_step:
                        self.reads(text + later, refusal)
                        self.reads(later + text, refusal)

    def test_all_at_once(self):
        texts = [text for step in self.STEPS for text, refusal in step]
        refusals = [refusal for step in self.STEPS for text, refusal in step]
        for k in range(len(texts)):
            self.reads("".join(texts[k:]), refusals[k])
            self.reads("".join(reversed(texts[k:])), refusals[k])

    def test_length_goes_ahead_of_all(self):
        for step in self.STEPS:
            for text, refusal in step:
                self.reads(text + " " * (2048 - len(text)), refusal)
                self.reads(text + " " * (2049 - len(text)), TOO_MUCH)
        self.reads("?" * 2048, NO_RULE)
        self.reads("?" * 2049, TOO_MUCH)

    def test_within_one_part(self):
        self.reads("n: n % 0 = 2..1, 3 4;", NO_RULE)
        self.reads("n: n % 0 = 2..1, " + ranges(64) + ";", WRONG)
        self.reads("a: n % 0 = 2..1, " + ranges(64) + ";", TOO_MUCH)
        self.reads("a: n % 0 = 1 or n % 9999 = 1 or n % 9998 = 1;", WRONG)
        self.reads("a: n % 9999 = 2..1 or n % 9998 = 1;", WRONG)


if __name__ == "__main__":
    unittest.main()
