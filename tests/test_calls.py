"""What holds of every call: nothing handed in is changed, nothing is kept, nothing is printed, read or imported."""

import ast
import contextlib
import io
import pathlib
import sys
import unittest

import wordforms
from helper import row
from wordforms.rules import pl_form, pl_read, pl_same

ANSWERS = (
    ("", 0),
    ("one: n = 1; few: n % 10 = 2..4 and n % 100 != 12..14;", 2),
    ("one: n = 1;", 1),
    ("one: n = 1; one: n = 2;", -22),
    ("other: n = 1;", -22),
    ("a:n=0;b:n=0;c:n=0;d:n=0;e:n=0;f:n=0;g:n=0;h:n=0;", 8),
    ("a:n=0;b:n=0;c:n=0;d:n=0;e:n=0;f:n=0;g:n=0;h:n=0;i:n=0;", -28),
    ("a: n = " + ",".join(["1"] * 64) + ";", 1),
    ("a: n = " + ",".join(["1"] * 65) + ";", -28),
    ("a: n % 0 = 0;", -22),
    ("a: n = 2..1;", -22),
    ("a: n % 625 = 0 or n % 16 = 0;", 1),
    ("a: n % 73 = 0 or n % 137 = 0;", -28),
    ("a: n = 1", -71),
    ("?", -71),
    (" " * 2049, -28),
)

FORMS = (
    (0, "", "other"),
    (1, "one: n = 1; few: n % 10 = 2..4 and n % 100 != 12..14;", "one"),
    (22, "one: n = 1; few: n % 10 = 2..4 and n % 100 != 12..14;", "few"),
    (12, "one: n = 1; few: n % 10 = 2..4 and n % 100 != 12..14;", "other"),
    (1, "a: n != 1;", "other"),
    (9223372036854775807, "a: n != 1;", "a"),
    (3, "abcdefghijklmnop: n % 1 = 0;", "abcdefghijklmnop"),
    (64, "a: n = " + ",".join(["1"] * 63) + ",64;", "a"),
    (7, "a: n % 625 = 0 or n % 16 = 7;", "a"),
)


SAMES = (
    ("", "", [0, 1]),
    ("a: n = 1;", "", [2, 1]),
    ("", "one: n != 0..9;", [2, 10]),
    ("a: n = 1;", "b: n = 1;", [2, 1]),
    ("a: n = 0..3; b: n = 5;", "b: n = 5; a: n = 0, 1, 2, 3;", [0, 1]),
    ("a: n % 2 = 0;", "a: n % 4 = 0, 2;", [0, 1]),
    ("a: n % 3 = 2;", "a: n % 3 = 2 and n != 20;", [2, 20]),
    ("a: n = 1", "a: n % 0 = 1;", [0, -71]),
    ("a: n % 0 = 1;", "a: n = 1", [0, -22]),
    ("a: n = 1;", "a: n = 1 or n = 3..2;", [0, -22]),
    ("a: n = 1;", " " * 2049, [0, -28]),
    ("a: n % 73 = 1;", "a: n % 137 = 1;", [0, -28]),
)


def calls():
    """Each call by its function, its numbers and its rows, with what it answers."""
    for text, answer in ANSWERS:
        yield pl_read, [], [row(text)], [0, answer]
        if answer < 0:
            yield pl_form, [1], [row(text)], [0, answer]
    for number, text, word in FORMS:
        yield pl_form, [number], [row(text)], [1, len(word), *row(word)]
    for text, other, answer in SAMES:
        yield pl_same, [], [row(text), row(other)], answer
    one_list = row("a: n % 3 = 1; b: n = 5..9;")
    yield pl_same, [], [one_list, one_list], [0, 1]
    refused = row("a: n % 0 = 1;")
    yield pl_same, [], [refused, refused], [0, -22]


class Unchanged(list):
    """A list that tells of any try to change it, even one that is taken back."""

    def refuse(self, *others, **named):
        raise RuntimeError("changed")

    __setitem__ = __delitem__ = __iadd__ = __imul__ = refuse
    append = extend = insert = pop = remove = clear = sort = reverse = refuse


class Calls(unittest.TestCase):
    def test_what_is_handed_in_is_the_same_after(self):
        for call, numbers, rows, answer in calls():
            before = [list(t) for t in rows]
            self.assertEqual(call(*numbers, *rows), answer)
            self.assertEqual(rows, before)

    def test_what_is_handed_in_is_not_changed_for_a_while(self):
        for call, numbers, rows, answer in calls():
            self.assertEqual(call(*numbers, *[Unchanged(t) for t in rows]), answer)
            if len(rows) == 2 and rows[0] == rows[1]:
                t = Unchanged(rows[0])
                self.assertEqual(call(*numbers, t, t), answer)

    def test_every_call_is_as_if_the_first(self):
        for call, numbers, rows, answer in calls():
            for other, other_numbers, other_rows, other_answer in calls():
                self.assertEqual(call(*numbers, *rows), answer)
                self.assertEqual(other(*other_numbers, *other_rows), other_answer)
                self.assertEqual(call(*numbers, *rows), answer)

    def test_the_same_list_changed_between_calls(self):
        t = row("a: n = 1; b: n = 2;")
        u = list(t)
        self.assertEqual(pl_read(t), [0, 2])
        self.assertEqual(pl_form(2, t), [1, 1, 98])
        self.assertEqual(pl_same(t, u), [0, 1])
        t[t.index(98)] = 99
        self.assertEqual(pl_form(2, t), [1, 1, 99])
        self.assertEqual(pl_same(t, u), [2, 2])
        self.assertEqual(pl_same(u, t), [2, 2])
        t[t.index(99)] = 97
        self.assertEqual(pl_read(t), [0, -22])
        self.assertEqual(pl_form(2, t), [0, -22])
        self.assertEqual(pl_same(t, u), [0, -22])
        self.assertEqual(pl_same(u, u), [0, 1])

    def test_an_answer_belongs_to_the_caller(self):
        for call, numbers, rows, answer in calls():
            given = call(*numbers, *rows)
            given[1] = 77
            given.append(5)
            self.assertEqual(call(*numbers, *rows), answer)

    def test_the_names_of_the_arguments(self):
        self.assertEqual(pl_read(t=row("a: n = 1;")), [0, 1])
        self.assertEqual(pl_form(t=row("a: n = 1;"), number=1), [1, 1, 97])
        self.assertEqual(pl_same(u=row("a: n = 1"), t=row("a: n % 0 = 1;")), [0, -22])

    def test_nothing_is_printed(self):
        out = io.StringIO()
        with contextlib.redirect_stdout(out), contextlib.redirect_stderr(out):
            for call, numbers, rows, answer in calls():
                call(*numbers, *rows)
        self.assertEqual(out.getvalue(), "")

    def test_few_calls_stand_within_one_another(self):
        texts = ["a:n=" + "1," * 1021 + "1;", "a:" + "n=1or " * 340 + "n=1;", "a:n=1;" * 341, "a" * 2048, " " * 2048,
                 "a:" + "n=1or " * 63 + "n=1;", "a:" + "n!=1and " * 63 + "n!=1;", "a:n=" + "1," * 63 + "1;"]
        deepest = 0

        def depth(frame):
            count = 0
            while frame is not None:
                count += 1
                frame = frame.f_back
            return count

        def watch(frame, event, arg):
            nonlocal deepest
            deepest = max(deepest, depth(frame))

        here = depth(sys._getframe())
        sys.setprofile(watch)
        try:
            for text in texts:
                pl_read(row(text))
                pl_form(2, row(text))
                pl_same(row(text), row(text))
        finally:
            sys.setprofile(None)
        self.assertLess(deepest - here, 30)


class Source(unittest.TestCase):
    FOLDER = pathlib.Path(wordforms.__file__).parent

    def trees(self):
        for path in sorted(self.FOLDER.glob("*.py")):
            yield path.name, ast.parse(path.read_text(encoding="ascii"))

    def test_nothing_is_imported(self):
        for name, tree in self.trees():
            for node in ast.walk(tree):
                self.assertNotIsInstance(node, (ast.Import, ast.ImportFrom), name)

    def test_only_plain_names_of_python_are_called(self):
        allowed = {"len", "tuple", "list", "any", "all", "max", "range"}
        for name, tree in self.trees():
            own = {node.name for node in ast.walk(tree) if isinstance(node, ast.FunctionDef)}
            parameters = {node.arg for node in ast.walk(tree) if isinstance(node, ast.arg)}
            for node in ast.walk(tree):
                if isinstance(node, ast.Call) and isinstance(node.func, ast.Name):
                    self.assertIn(node.func.id, allowed | own | parameters, name)

    def test_nothing_at_the_top_can_be_changed(self):
        for name, tree in self.trees():
            for node in tree.body:
                if isinstance(node, ast.Assign):
                    self.assertIsInstance(ast.literal_eval(node.value), (int, tuple), name)

    def test_sizes(self):
        for path in sorted(self.FOLDER.glob("*.py")):
            lines = path.read_text(encoding="ascii").split("\n")
            self.assertLessEqual(len(lines), 400)
            self.assertLessEqual(max(len(line) for line in lines), 120)
            self.assertNotIn("\t", "".join(lines))
        for name, tree in self.trees():
            for node in ast.walk(tree):
                if isinstance(node, ast.FunctionDef):
                    self.assertLessEqual(node.end_lineno - node.lineno + 1, 40, node.name)


if __name__ == "__main__":
    unittest.main()
