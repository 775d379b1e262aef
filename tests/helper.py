"""What several tests need: rules of some tongues, rules made by chance, and a second way to a number's form."""

import re

from wordforms.rules import pl_form

GREATEST = 9223372036854775807

EAST = ("one: n % 10 = 1 and n % 100 != 11;\n"
        "few: n % 10 = 2..4 and n % 100 != 12..14;\n"
        "many: n % 10 = 0 or n % 10 = 5..9 or n % 100 = 11..14;\n")
SOUTH = "zero: n = 0; one: n = 1; two: n = 2; few: n % 100 = 3..10; many: n % 100 = 11..99;"
WEST = "one: n = 0, 1;"
NORTH = "one: n % 100 = 1; two: n % 100 = 2; few: n % 100 = 3, 4;"


def row(text):
    return list(text.encode("latin-1"))


def word_of(number, text):
    answer = pl_form(number, row(text))
    if answer[0] != 1 or answer[1] != len(answer) - 2:
        raise AssertionError(f"no word: {answer}")
    return bytes(answer[2:]).decode("ascii")


class Unseen(list):
    """A list that tells of any look at what it holds; how long it is may be asked."""

    def refuse(self, *others):
        raise RuntimeError("looked at")

    __getitem__ = __iter__ = __contains__ = __eq__ = __reversed__ = refuse


def one_as_python(found):
    value = "x" + (f" % {int(found['by'])}" if found["by"] else "")
    members = []
    for part in found["ranges"].split(","):
        ends = [int(end) for end in part.split("..")]
        members.append(f"{value} in range({ends[0]}, {ends[-1]} + 1)")
    return ("" if found["sign"] == "=" else "not ") + "(" + " or ".join(members) + ")"


ONE = re.compile(r"\bn\s*(%\s*(?P<by>\d+))?\s*(?P<sign>!?=)\s*(?P<ranges>[\d., \n]+)")


def told_again(text):
    """The same rule by Python's own `and`, `or` and `in`: a second way to the form."""
    forms = []
    for form in text.split(";")[:-1]:
        word, either = form.split(":")
        # The "and" and "or" that are left bind in Python as they do in a rule.
        python = ONE.sub(lambda found: one_as_python(found) + " ", either).strip()
        forms.append((word.strip(), eval("lambda x: " + python)))

    def form(x):
        return next((word for word, holds in forms if holds(x)), "other")
    return form


def made(chance, tops=(9, 30, 9999)):
    """A rule by chance; without a remainder, its ranges end at one of the tops at most."""

    def ends(most):
        first = chance.randint(0, most)
        return f"{first}" if chance.random() < 0.5 else f"{first}..{chance.randint(first, most)}"

    def one():
        by = chance.choice([None, None, 1, 2, 3, 5, 6, 10, 12, 15, 20, 100])
        most = chance.choice(tops) if by is None else by + 1
        ranges = ", ".join(ends(most) for k in range(chance.randint(1, 3)))
        return f"n{'' if by is None else f' % {by}'} {chance.choice(['=', '=', '!='])} {ranges}"

    def either():
        return " or ".join(" and ".join(one() for k in range(chance.randint(1, 3)))
                           for j in range(chance.randint(1, 2)))
    words = chance.sample(["zero", "one", "two", "few", "many", "some", "most", "all"], chance.randint(0, 3))
    return "".join(f"{word}: {either()};\n" for word in words)
