"""Promise 2: which form a number takes, and that refusals are pl_read's."""

import itertools
import random
import re
import unittest

from helper import EAST, GREATEST, NORTH, SOUTH, WEST, Unseen, made, row, told_again, word_of
from wordforms.rules import pl_form, pl_read


class Case(unittest.TestCase):
    def tells(self, text, expected):
        """expected: the word that each number takes."""
        for number, word in expected.items():
            with self.subTest(text=text, number=number):
                answer = pl_form(number, row(text))
                self.assertEqual(answer, [1, len(word), *word.encode("ascii")])
                self.assertIs(type(answer), list)
                self.assertEqual({type(v) for v in answer}, {int})

    def only(self, text, word, numbers, among):
        """Just these of the numbers among take the word; the rest are other."""
        self.tells(text, {x: word if x in numbers else "other" for x in among})


class OrdinaryRules(Case):
    def test_the_answer_in_numbers(self):
        self.assertEqual(pl_form(1, row("one: n = 1;")), [1, 3, 111, 110, 101])
        self.assertEqual(pl_form(2, row("one: n = 1;")), [1, 5, 111, 116, 104, 101, 114])
        self.assertEqual(pl_form(2, row("z: n != 1;")), [1, 1, 122])

    def test_one_form(self):
        self.only("one: n = 1;", "one", [1], range(30))
        self.only(WEST, "one", [0, 1], range(30))

    def test_several_forms(self):
        self.tells("one: n = 1; few: n = 2..4;", {0: "other", 1: "one", 2: "few", 3: "few", 4: "few", 5: "other"})
        self.tells(EAST, {0: "many", 1: "one", 2: "few", 4: "few", 5: "many", 9: "many", 10: "many", 11: "many",
                          12: "many", 14: "many", 15: "many", 20: "many", 21: "one", 22: "few", 24: "few", 25: "many",
                          100: "many", 101: "one", 102: "few", 111: "many", 112: "many", 121: "one", 1011: "many"})
        self.tells(SOUTH, {0: "zero", 1: "one", 2: "two", 3: "few", 10: "few", 11: "many", 99: "many", 100: "other",
                           101: "other", 102: "other", 103: "few", 110: "few", 111: "many", 199: "many", 200: "other"})
        self.tells(NORTH, {0: "other", 1: "one", 2: "two", 3: "few", 4: "few", 5: "other", 101: "one", 204: "few"})

    def test_equal_without_remainder(self):
        self.only("a: n = 7;", "a", [7], range(40))

    def test_unequal_without_remainder(self):
        self.only("a: n != 7;", "a", [x for x in range(40) if x != 7], range(40))

    def test_equal_with_remainder(self):
        self.only("a: n % 7 = 3;", "a", [3, 10, 17, 24, 31, 38], range(40))

    def test_unequal_with_remainder(self):
        self.only("a: n % 7 != 3;", "a", [x for x in range(40) if x not in (3, 10, 17, 24, 31, 38)], range(40))

    def test_ranges_of_one_number_and_of_two(self):
        self.only("a: n = 2, 5..7, 11, 13..13;", "a", [2, 5, 6, 7, 11, 13], range(30))
        self.only("a: n % 10 = 2, 5..7;", "a", [2, 5, 6, 7, 12, 15, 16, 17, 22, 25, 26, 27], range(30))

    def test_ranges_in_any_order_and_over_one_another(self):
        self.only("a: n = 9, 3..5, 1, 4..7, 4;", "a", [1, 3, 4, 5, 6, 7, 9], range(30))

    def test_and(self):
        self.only("a: n = 1..9 and n % 2 = 0;", "a", [2, 4, 6, 8], range(30))
        self.only("a: n = 1..9 and n % 2 = 0 and n != 4;", "a", [2, 6, 8], range(30))
        self.only("a: n = 1 and n = 2;", "a", [], range(30))

    def test_or(self):
        self.only("a: n = 1 or n = 5;", "a", [1, 5], range(30))
        self.only("a: n = 1 or n = 5 or n % 10 = 7;", "a", [1, 5, 7, 17, 27], range(30))
        self.only("a: n = 1 or n != 1;", "a", range(30), range(30))

    def test_and_goes_ahead_of_or(self):
        self.only("a: n = 1 or n = 2..9 and n % 2 = 0;", "a", [1, 2, 4, 6, 8], range(30))
        self.only("a: n % 2 = 0 and n = 2..9 or n = 1;", "a", [1, 2, 4, 6, 8], range(30))
        self.only("a: n = 1 and n = 2 or n = 3 and n % 3 = 0 or n = 4 and n = 5;", "a", [3], range(30))

    def test_gaps_change_nothing(self):
        self.only(" a\n:\nn % 0010 != 1 .. 0008 ,\n9 or n=0001and n!=0 ; ", "a", [0, 1, 10, 20], range(30))
        self.only("a:n%10!=1..8,9or n=1and n!=0;", "a", [0, 1, 10, 20], range(30))


class WhichForm(Case):
    def test_the_first_of_several_that_hold(self):
        self.tells("a: n = 1..5; b: n = 3..8; c: n = 0..9;",
                   {0: "c", 1: "a", 3: "a", 5: "a", 6: "b", 8: "b", 9: "c", 10: "other"})
        self.tells("c: n = 0..9; b: n = 3..8; a: n = 1..5;", {0: "c", 1: "c", 3: "c", 5: "c", 9: "c", 10: "other"})

    def test_it_is_the_first_written_not_the_first_by_its_letters(self):
        self.tells("z: n = 1; a: n = 1;", {1: "z"})
        self.tells("aa: n = 1; a: n = 1;", {1: "aa"})
        self.tells("a: n = 1; aa: n = 1;", {1: "a"})

    def test_all_forms_hold(self):
        words = "hgfedcba"
        for k in range(8):
            self.tells("".join(f"{word}: n % 1 = 0;" for word in words[k:]), {0: words[k], 5: words[k]})

    def test_none_holds(self):
        self.tells("a: n = 1; b: n = 2;", {0: "other", 3: "other", 9999: "other", GREATEST: "other"})
        self.tells("a: n != 0..9999;", {0: "other", 9999: "other", 10000: "a"})

    def test_an_empty_rule(self):
        for text in ("", " ", "\n", " \n ", " " * 2048):
            self.tells(text, {0: "other", 1: "other", 2: "other", 10000: "other", GREATEST: "other"})


class Edges(Case):
    def test_the_least_number(self):
        self.tells("a: n = 0;", {0: "a", 1: "other", 10: "other", 10000: "other", GREATEST: "other"})
        self.tells("a: n != 0;", {0: "other", 1: "a", 10: "a", 10000: "a", GREATEST: "a"})
        self.tells("a: n = 0..0;", {0: "a", 1: "other"})
        self.tells("a: n % 10 = 0;", {0: "a", 1: "other", 9: "other", 10: "a", 20: "a"})
        self.tells("a: n % 9999 = 0;", {0: "a", 1: "other", 9998: "other", 9999: "a", 10000: "other", 19998: "a"})

    def test_the_greatest_number(self):
        self.tells("a: n = 0..9999;", {GREATEST: "other"})
        self.tells("a: n != 0..9999;", {GREATEST: "a", GREATEST - 1: "a"})
        self.tells("a: n % 10 = 7;", {GREATEST: "a", GREATEST - 1: "other", GREATEST - 10: "a"})
        self.tells("a: n % 1000 = 807;", {GREATEST: "a", GREATEST - 1: "other", GREATEST - 1000: "a"})
        # 2^63 leaves 1 by 7 (2^3 does), 8 by 9 (2^6 leaves 1) and 0 by 8,192 (2^13); this is one less.
        self.tells("a: n % 7 = 0;", {GREATEST: "a", GREATEST - 1: "other", GREATEST - 7: "a"})
        self.tells("a: n % 9 = 7;", {GREATEST: "a", GREATEST - 1: "other"})
        self.tells("a: n % 8192 = 8191;", {GREATEST: "a", GREATEST - 1: "other"})
        self.tells(EAST, {GREATEST: "many", GREATEST - 6: "one", GREATEST - 5: "few", GREATEST - 7: "many"})

    def test_both_ends_of_a_range_and_the_numbers_beside_them(self):
        for first, last in ((0, 0), (0, 1), (1, 1), (5, 5), (5, 6), (3, 17), (99, 1000), (0, 9999), (9998, 9999),
                            (9999, 9999)):
            beside = [x for x in (first - 1, first, last, last + 1) if x >= 0]
            inside = [x for x in beside if first <= x <= last]
            outside = [x for x in beside if x not in inside]
            self.only(f"a: n = {first}..{last};", "a", inside, beside)
            self.only(f"a: n != {first}..{last};", "a", outside, beside)

    def test_both_ends_of_a_range_of_remainders(self):
        self.only("a: n % 100 = 12..14;", "a", [12, 14, 112, 114, 9912, 10014],
                  [11, 12, 14, 15, 111, 112, 114, 115, 9911, 9912, 10014, 10015])
        self.only("a: n % 100 = 0..1, 98..99;", "a", [0, 1, 98, 99, 100, 101, 198, 199],
                  [0, 1, 2, 97, 98, 99, 100, 101, 102, 197, 198, 199])

    def test_a_remainder_is_never_as_great_as_its_divisor(self):
        self.only("a: n % 3 = 3..9999;", "a", [], range(40))
        self.only("a: n % 3 != 3..9999;", "a", range(40), range(40))
        self.only("a: n % 3 = 2..9999;", "a", range(2, 40, 3), range(40))

    def test_by_1(self):
        numbers = [0, 1, 2, 9999, 10000, GREATEST]
        self.only("a: n % 1 = 0;", "a", numbers, numbers)
        self.only("a: n % 1 != 0;", "a", [], numbers)
        self.only("a: n % 1 = 1;", "a", [], numbers)
        self.only("a: n % 1 != 1;", "a", numbers, numbers)

    def test_9999_and_beyond(self):
        around = [9998, 9999, 10000, 10001, 19998, 19999, 20000, 99999]
        self.only("a: n = 9999;", "a", [9999], around)
        self.only("a: n != 9999;", "a", [x for x in around if x != 9999], around)
        self.only("a: n = 9999..9999;", "a", [9999], around)
        self.only("a: n = 5000..9999;", "a", [9998, 9999], around)
        self.only("a: n % 9999 = 9998;", "a", [9998], around)
        self.only("a: n % 9999 = 1;", "a", [10000, 19999], around)
        self.only("a: n % 10 = 9 and n != 9999;", "a", [19999, 99999], around)
        self.only("a: n % 5000 = 4999;", "a", [9999, 19999, 99999], around)

    def test_numbers_in_a_rule_are_read_by_their_value(self):
        self.only("a: n = 0007, 0010..0012;", "a", [7, 10, 11, 12], range(30))
        self.only("a: n % 0010 = 0003;", "a", [3, 13, 23], range(30))

    def test_a_word_of_16_letters(self):
        word = "abcdefghijklmnop"
        self.tells(word + ": n = 1;", {1: word, 2: "other"})
        self.tells("a: n = 1; " + word + ": n = 2; abcdefghijklmno: n = 3;",
                   {1: "a", 2: word, 3: "abcdefghijklmno", 4: "other"})
        self.tells("z" * 16 + ": n != 1;", {1: "other", 2: "z" * 16})

    def test_words_of_every_length_and_letter(self):
        for size in range(1, 17):
            word = "qrstuvwxyzabcdefghijklm"[:size]
            self.tells(word + ": n = 1;", {1: word})
        for letter in "abcdefghijklmopqrstuvwxyz":
            self.tells(letter + ": n = 1;", {1: letter, 0: "other"})

    def test_8_forms(self):
        words = ["zero", "one", "two", "three", "four", "five", "six", "seven"]
        text = "".join(f"{word}: n % 9 = {k};" for k, word in enumerate(words))
        self.tells(text, {x: (words + ["other"])[x % 9] for x in range(40)})

    def test_64_ranges(self):
        singles = "a: n = " + ",".join(str(3 * k) for k in range(64)) + ";"
        self.only(singles, "a", range(0, 192, 3), range(220))
        self.only(singles.replace("=", "!="), "a", [x for x in range(220) if x % 3 or x >= 192], range(220))
        pairs = "a: n = " + ",".join(f"{4 * k}..{4 * k + 1}" for k in range(64)) + ";"
        self.only(pairs, "a", [x for x in range(256) if x % 4 < 2], range(280))
        self.only("a: " + " or ".join(f"n = {3 * k}" for k in range(64)) + ";", "a", range(0, 192, 3), range(220))
        self.only("a: " + " and ".join(f"n != {3 * k}" for k in range(64)) + ";", "a",
                  [x for x in range(220) if x % 3 or x >= 192], range(220))

    def test_64_ranges_over_8_forms(self):
        text = "".join(f"{word}: n = " + ",".join(str(8 * k + j) for k in range(8)) + ";"
                       for j, word in enumerate("abcdefgh"))
        self.tells(text, {x: "abcdefgh"[x % 8] if x < 64 else "other" for x in range(80)})

    def test_unequal_with_several_ranges(self):
        self.only("a: n != 2, 5..7, 9;", "a", [0, 1, 3, 4, 8, 10, 11], range(12))
        self.only("a: n % 10 != 2, 5..7, 9;", "a", [x for x in range(40) if x % 10 in (0, 1, 3, 4, 8)], range(40))
        self.only("a: n != 1 or n != 2;", "a", range(12), range(12))
        self.only("a: n != 1 and n != 2;", "a", [0, 3, 4, 5, 6, 7, 8, 9, 10, 11], range(12))

    def test_a_least_common_multiple_of_10000(self):
        text = "a: n % 16 = 15 and n % 625 = 624; b: n % 16 = 0 and n % 625 = 0;"
        self.tells(text, {0: "b", 1: "other", 624: "other", 9998: "other", 9999: "a", 10000: "b", 10001: "other",
                          19999: "a", 20000: "b", 9223372036854770000: "b", 9223372036854769999: "a",
                          9223372036854770001: "other", GREATEST: "other"})
        # 7 and every 625 from there on; of each 16 of these, one leaves 3 by 16.
        found = [x for x in range(7, 30000, 625) if word_of(x, "a: n % 625 = 7 and n % 16 = 3;") == "a"]
        self.assertEqual(found, [7507, 17507, 27507])

    def test_remainders_by_2_3_5_far_beyond_10000(self):
        text = ("all: n % 2 = 0 and n % 3 = 0 and n % 5 = 0; two: n % 2 = 0 and n % 3 != 0 and n % 5 != 0;"
                "odd: n % 2 = 1 and n % 3 = 1..2 and n % 5 != 0; five: n % 5 = 0;")
        words = {}
        for x in range(30):
            words[x] = ("all" if x == 0 else "two" if x % 2 == 0 and x % 3 and x % 5 else
                        "odd" if x % 2 and x % 3 and x % 5 else "five" if x % 5 == 0 else "other")
        # Each of these starts is a multiple of 30.
        for start in (0, 9990, 30000, 3 * 10 ** 9, 2 ** 32 * 30, 3 * 10 ** 18, 9 * 10 ** 18, 9223372036854775770):
            self.assertEqual(start % 30, 0)
            self.tells(text, {start + x: words[x] for x in range(30)})


class Refusals(Case):
    RULES = (
        ("?", -71), ("a", -71), ("a: n = 1", -71), ("a: n = 1;;", -71), ("a: n == 1;", -71), ("a: n = 10000;", -71),
        ("abcdefghijklmnopq: n = 1;", -71), ("A: n = 1;", -71), ("a: n = 1 and;", -71), ("a: n ! = 1;", -71),
        ("n: n = 1;", -22), ("or: n = 1;", -22), ("and: n = 1;", -22), ("other: n = 1;", -22),
        ("a: n = 1; a: n = 2;", -22), ("a: n = 1; b: n = 2; other: n = 3;", -22),
        ("".join(f"{word}: n = 1;" for word in "abcdefghi"), -28),
        ("a: n = " + ",".join(["1"] * 65) + ";", -28), ("a: " + " or ".join(["n = 1"] * 65) + ";", -28),
        ("a: n = 1; b: n % 0 = 1;", -22), ("a: n % 0000 != 1;", -22), ("a: n = 1; b: n = 5..4;", -22),
        ("a: n = 1, 9999..0;", -22),
        ("a: n = 1; b: n % 73 = 1 and n % 137 = 1;", -28), ("a: n % 9999 = 1; b: n % 2 = 1;", -28),
        ("a: n = 1;" + " " * 2040, -28), ("?" * 2049, -28), (" " * 2049, -28), ("a" * 2100, -28),
    )
    # What is named first is answered, wherever in the rule it stands.
    TWO_DUE = (
        ("other: n = 1 ?;", -71), ("or: n = 1; a: n;", -71), ("a: n % 0 = 1; b: n = ;", -71),
        ("a: n % 0 = 1; a: n = 1;", -22), ("a: n = " + ",".join(["1"] * 65) + "; other: n = 1;", -22),
        ("".join(f"{word}: n = 1;" for word in "abcdefghia"), -22),
        ("a: n % 73 = 1; n: n % 137 = 1;", -22),
        ("a: n % 0 = " + ",".join(["1"] * 65) + ";", -28), ("a: n = 2..1;" + "".join(
            f"{word}: n = 1;" for word in "bcdefghi"), -28),
        ("a: n % 73 = 1; b: n % 137 = 1; c: n % 0 = 1;", -22), ("a: n % 9999 = 1; b: n % 9998 = 2..1;", -22),
        ("other: n % 0 = 1;" + " " * 2040, -28),
    )
    NUMBERS = (0, 1, 2, 5, 9999, 10000, GREATEST)

    def refused(self, rules):
        for text, refusal in rules:
            for number in self.NUMBERS:
                with self.subTest(text=text, number=number):
                    self.assertEqual(pl_form(number, row(text)), [0, refusal])
            self.assertEqual(pl_read(row(text)), [0, refusal])

    def test_each_refusal_whatever_the_number(self):
        self.refused(self.RULES)

    def test_two_refusals_due(self):
        self.refused(self.TWO_DUE)

    def test_a_fault_behind_a_form_that_holds(self):
        # The form of 1 is settled by the first form, yet the whole rule is read.
        for text, refusal in (("a: n = 1; b", -71), ("a: n = 1; n: n = 2;", -22), ("a: n = 1 or n % 0 = 0;", -22),
                              ("a: n = 1 or n = 2..1;", -22), ("a: n = 1; b: n % 101 = 1 or n % 100 = 1;", -28)):
            self.assertEqual(pl_form(1, row(text)), [0, refusal])

    def test_as_pl_read_answers(self):
        tokens = "a : n % 10 != 2 .. 4 , 5 and n = 8 or n % 100 = 0 ; b : n = 6 ;".split()
        for k in range(len(tokens)):
            for put in ([], ["x"], ["n"], ["or"], ["0"], ["101"], [";"], ["a"], [tokens[k]] * 2):
                t = row(" ".join(tokens[:k] + put + tokens[k + 1:]))
                answer = pl_read(t)
                for number in (0, 6, GREATEST):
                    form = pl_form(number, t)
                    self.assertEqual(form == answer, answer[1] < 0)
                    self.assertEqual(form[0], 0 if answer[1] < 0 else 1)

    def test_2048_bytes_and_one_more(self):
        rule = "one: n = 1;"
        self.tells(rule + " " * (2048 - len(rule)), {1: "one", 2: "other"})
        self.tells("\n" * (2048 - len(rule)) + rule, {1: "one", 2: "other"})
        self.assertEqual(pl_form(1, row(rule + " " * (2049 - len(rule)))), [0, -28])

    def test_a_longer_row_is_not_looked_at(self):
        self.assertEqual(pl_form(1, Unseen([97] * 2049)), [0, -28])
        with self.assertRaises(RuntimeError):
            pl_form(1, Unseen([97] * 2048))


class ToldAgain(Case):
    """The form of a number against the same rule in Python's own words."""

    def test_ordinary_rules(self):
        for text in (EAST, SOUTH, WEST, NORTH, "", "a: n % 2 = 1 and n != 3, 5..9 or n = 4; b: n % 5 != 0..2;"):
            form = told_again(text)
            for number in itertools.chain(range(1200), range(9900, 10200), range(GREATEST - 300, GREATEST + 1)):
                self.assertEqual(word_of(number, text), form(number), (text, number))

    def test_many_rules(self):
        chance = random.Random(2)
        for k in range(300):
            text = made(chance)
            form = told_again(text)
            self.assertGreaterEqual(pl_read(row(text))[1], 0, text)
            near = list(range(34)) + [9998, 9999, 10000, 10001]
            for number in near + [chance.randint(0, 20000) for j in range(10)] + [chance.randint(0, GREATEST)]:
                self.assertEqual(word_of(number, text), form(number), (text, number))


class WhatHolds(Case):
    NUMBERS = (*range(32), *range(98, 116), *range(9996, 10016), 20001, *range(GREATEST - 12, GREATEST + 1))

    def test_each_number_has_just_one_form(self):
        for text in (EAST, SOUTH, WEST, NORTH, "", "a: n % 1 = 0; b: n % 1 = 0;", "a: n = 1 or n = 1; b: n = 1;"):
            words = re.findall(r"(\w+):", text) + ["other"]
            for number in self.NUMBERS:
                word = word_of(number, text)
                self.assertEqual(words.count(word), 1)
                self.assertEqual(word_of(number, text), word)

    def same(self, texts):
        for number in self.NUMBERS:
            self.assertEqual(len({word_of(number, text) for text in texts}), 1, (texts[0], number))

    def test_forms_in_another_order(self):
        for text in (EAST, NORTH, "a: n = 0..4; b: n = 5..9; c: n = 10..9999; d: n != 0..9999;",
                     "a: n % 3 = 0; b: n % 3 = 1; c: n % 3 = 2;"):
            forms = [form + ";" for form in text.strip().split(";")[:-1]]
            self.same(["".join(order) for order in itertools.permutations(forms)])

    def test_forms_in_another_order_where_numbers_have_two(self):
        self.tells("a: n = 1..3; b: n = 2..4;", {1: "a", 2: "a", 3: "a", 4: "b"})
        self.tells("b: n = 2..4; a: n = 1..3;", {1: "a", 2: "b", 3: "b", 4: "b"})

    def test_both_turned_about(self):
        for ones in (["n % 10 = 1", "n % 100 != 11"], ["n % 2 = 0", "n % 3 != 0", "n = 0..100, 9999"],
                     ["n != 3", "n != 4, 7..9", "n % 5 = 3..4", "n % 7 != 0"]):
            self.same(["a: " + " and ".join(order) + "; b: n % 4 = 1;" for order in itertools.permutations(ones)])

    def test_either_turned_about(self):
        for boths in (["n % 10 = 0", "n % 10 = 5..9", "n % 100 = 11..14"], ["n = 1 and n % 2 = 1", "n = 0"],
                      ["n != 0..9999 and n % 3 = 1", "n = 5", "n % 8 = 2 and n != 10", "n = 9999"]):
            self.same(["a: " + " or ".join(order) + "; b: n % 4 = 1;" for order in itertools.permutations(boths)])

    def test_ranges_turned_about(self):
        for ranges in (["1", "3..5", "9"], ["0", "2..4", "3..7", "9999"]):
            for start in ("n =", "n !=", "n % 10 =", "n % 10 !="):
                self.same([f"a: {start} " + ", ".join(order) + ";" for order in itertools.permutations(ranges)])


if __name__ == "__main__":
    unittest.main()
