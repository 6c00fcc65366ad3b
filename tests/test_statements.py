"""Points 2, 4 and 5: which strings are statements, their parts and parameters."""

import unittest

from batchends.errors import EndError, Unreadable
from batchends.statements import parameters, parse_statement

SIGNS = [chr(code) for code in range(32, 127) if chr(code) != "%"]


class Statements(unittest.TestCase):
    def assert_parts(self, string, parts):
        found = parse_statement(string)
        self.assertEqual(found, parts)
        self.assertIs(type(found), tuple)
        for part in found:
            self.assertIn(type(part), (str, int, tuple))

    def assert_unreadable(self, string):
        with self.assertRaises(EndError) as caught:
            parse_statement(string)
        self.assertIs(type(caught.exception), Unreadable, string)


class Kinds(Statements):
    def test_every_kind(self):
        self.assert_parts("create t", ("create", "t"))
        self.assert_parts("drop t", ("drop", "t"))
        self.assert_parts("put t 1 2", ("put", "t", 1, 2))
        self.assert_parts("delete t 1", ("delete", "t", 1))
        self.assert_parts("get t 1", ("get", "t", 1))
        self.assert_parts("scan t", ("scan", "t"))
        self.assert_parts("scan t 1 2", ("scan", "t", 1, 2))
        self.assert_parts("total t", ("total", "t"))
        self.assert_parts("begin", ("begin",))
        self.assert_parts("commit", ("commit",))
        self.assert_parts("rollback", ("rollback",))
        self.assert_parts("save n", ("save", "n"))
        self.assert_parts("undo n", ("undo", "n"))

    def test_another_number_of_parts(self):
        for string in (
            "create", "create t u", "create t 1", "drop", "drop t u", "drop t 1",
            "put", "put t", "put t 1", "put t 1 2 3", "delete", "delete t", "delete t 1 2",
            "get", "get t", "get t 1 2", "scan", "scan t 1", "scan t 1 2 3", "total",
            "total t u", "begin t", "commit 1", "rollback t", "save", "save n m", "undo",
            "undo n 1",
        ):
            with self.subTest(string):
                self.assert_unreadable(string)

    def test_other_words(self):
        for string in ("", "t", "insert t 1 2", "Create t", "CREATE t", "creat t", "creates t",
                       "begins", "1", "$1", "'begin'", "T", "TXY t 1 2"):
            with self.subTest(string):
                self.assert_unreadable(string)

    def test_names_and_terms_are_not_exchanged(self):
        for string in ("create 1", "create 't'", "create $1", "drop $1", "save 1", "save $1",
                       "undo 'n'", "put 1 1 1", "put t a 1", "put t 1 a", "get t a",
                       "get $1 1", "scan t a b", "total 't'", "delete t t", "scan t 1 put"):
            with self.subTest(string):
                self.assert_unreadable(string)


class Names(Statements):
    def test_lengths(self):
        self.assert_parts("create a", ("create", "a"))
        self.assert_parts("create abcdefgh", ("create", "abcdefgh"))
        self.assert_parts("save stuvwxyz", ("save", "stuvwxyz"))
        self.assert_unreadable("create abcdefghi")
        self.assert_unreadable("save abcdefghi")

    def test_letters(self):
        for name in ("A", "aB", "a1", "1a", "a_b", "a-b", "a.b", "a'", "a$", "a,", "`", "{"):
            with self.subTest(name):
                self.assert_unreadable(f"create {name}")
                self.assert_unreadable(f"undo {name}")

    def test_words_of_statements(self):
        for word in ("create", "drop", "put", "delete", "get", "scan", "total", "begin",
                     "commit", "rollback", "save", "undo"):
            with self.subTest(word):
                self.assert_parts(f"create {word}", ("create", word))
                self.assert_parts(f"save {word}", ("save", word))
                self.assert_parts(f"put {word} 1 2", ("put", word, 1, 2))


class Numbers(Statements):
    def test_sizes(self):
        for number in (0, 1, -1, 9, 10, -10, 2147483647, -2147483648):
            with self.subTest(number):
                self.assert_parts(f"get t {number}", ("get", "t", number))

    def test_one_beyond(self):
        for digits in ("2147483648", "-2147483649", "99999999999999999999", "-9999999999"):
            with self.subTest(digits):
                self.assert_unreadable(f"get t {digits}")

    def test_leading_zeros(self):
        for digits in ("00", "01", "-01", "-0", "-00", "007", "00000000000000000001"):
            with self.subTest(digits):
                self.assert_unreadable(f"get t {digits}")

    def test_other_forms(self):
        for digits in ("+1", "--1", "-", "1-", "1.0", "1e3", "0x1", "1_000", "1,0", "- 1", "1a"):
            with self.subTest(digits):
                self.assert_unreadable(f"get t {digits}")

    def test_in_each_place(self):
        self.assert_parts("put t -5 0", ("put", "t", -5, 0))
        self.assert_unreadable("put t 01 0")
        self.assert_unreadable("put t 0 01")
        self.assert_parts("scan t -2147483648 2147483647",
                          ("scan", "t", -2147483648, 2147483647))


class Texts(Statements):
    def test_lengths(self):
        for many in (0, 1, 39, 40):
            with self.subTest(many):
                self.assert_parts("get t '" + "x" * many + "'", ("get", "t", ("text", "x" * many)))
        self.assert_unreadable("get t '" + "x" * 41 + "'")

    def test_forty_signs_twice(self):
        one, other = "y" * 40, " " * 40
        self.assert_parts(f"put abcdefgh '{one}' '{other}'",
                          ("put", "abcdefgh", ("text", one), ("text", other)))

    def test_spaces(self):
        for text in (" ", "  ", " a", "a ", "a  b", "a b c", "get t 1"):
            with self.subTest(text):
                self.assert_parts(f"put t '{text}' 1", ("put", "t", ("text", text), 1))
                self.assert_parts(f"put t 1 '{text}'", ("put", "t", 1, ("text", text)))

    def test_every_sign(self):
        for sign in SIGNS:
            if sign != "'":
                with self.subTest(sign):
                    self.assert_parts(f"get t '{sign}'", ("get", "t", ("text", sign)))

    def test_what_is_no_sign(self):
        for code in list(range(32)) + [37, 127, 128, 160, 233, 0x20AC, 0xD800, 0x1F600]:
            with self.subTest(code):
                self.assert_unreadable("get t '" + chr(code) + "'")
                self.assert_unreadable("get t 1" + chr(code))

    def test_a_parameter_in_a_text(self):
        self.assert_parts("get t '$1'", ("get", "t", ("text", "$1")))
        self.assert_parts("put t '$4' $1", ("put", "t", ("text", "$4"), ("parameter", 1)))
        self.assertEqual(parameters(parse_statement("put t '$2' '$1'")), 0)

    def test_quotes(self):
        for string in ("get t '", "get t '''", "get t 'a''b'", "get t 'a", "get t a'",
                       "get t ''a", "get t a''", "get t 'a'b'", "put t 'a''b'",
                       "put t 'a' 'b", "put t 'a 1", "get t 'a'1", "get t 1'a'", "get t ''''",
                       "get t \"a\"", "'get' t 1", "get 't' 1", "begin '", "begin ''"):
            with self.subTest(string):
                self.assert_unreadable(string)


class Parameters(Statements):
    def test_one(self):
        self.assert_parts("get t $1", ("get", "t", ("parameter", 1)))
        self.assert_parts("put t 1 $1", ("put", "t", 1, ("parameter", 1)))
        self.assert_parts("put t $1 'a'", ("put", "t", ("parameter", 1), ("text", "a")))

    def test_two_in_both_orders(self):
        self.assert_parts("put t $1 $2", ("put", "t", ("parameter", 1), ("parameter", 2)))
        self.assert_parts("put t $2 $1", ("put", "t", ("parameter", 2), ("parameter", 1)))

    def test_one_of_them_twice(self):
        self.assert_parts("scan t $1 $1", ("scan", "t", ("parameter", 1), ("parameter", 1)))
        self.assert_unreadable("scan t $2 $2")

    def test_one_that_is_left_out(self):
        for string in ("get t $2", "get t $3", "get t $4", "put t 1 $2", "put t $2 1",
                       "put t $1 $3", "put t $3 $1", "put t $1 $4", "put t $2 $3",
                       "put t $3 $4", "scan t $4 $2", "delete t $2", "put t '$1' $2"):
            with self.subTest(string):
                self.assert_unreadable(string)

    def test_none_of_these_is_one(self):
        for term in ("$0", "$5", "$9", "$", "$$1", "$01", "$10", "$12", "$-1", "$a", "1$",
                     "-$1", "$1$2", "$ 1"):
            with self.subTest(term):
                self.assert_unreadable(f"get t {term}")
                self.assert_unreadable(f"put t $1 {term}")

    def test_how_many(self):
        for string, many in (("begin", 0), ("create t", 0), ("put t 1 2", 0), ("get t $1", 1),
                             ("put t $1 3", 1), ("scan t $1 $1", 1), ("put t $1 $2", 2),
                             ("scan t $2 $1", 2), ("undo n", 0)):
            with self.subTest(string):
                self.assertEqual(parameters(parse_statement(string)), many)

    def test_how_many_of_lists(self):
        self.assertEqual(parameters(["begin"]), 0)
        self.assertEqual(parameters(["get", "t", ["parameter", 1]]), 1)
        self.assertEqual(parameters(["put", "t", ["parameter", 2], ["parameter", 1]]), 2)
        self.assertEqual(parameters(["put", "t", ["text", "parameter"], 7]), 0)
        self.assertEqual(parameters(("put", "t", ["text", "$2"], ("parameter", 1))), 1)
        self.assertEqual(parameters(["put", "p", -3, ["text", ""]]), 0)

    def test_parts_stay_as_they_are(self):
        parts = ["put", "t", ["parameter", 2], ["parameter", 1]]
        parameters(parts)
        self.assertEqual(parts, ["put", "t", ["parameter", 2], ["parameter", 1]])


class Form(Statements):
    def test_spaces(self):
        for string in (" begin", "begin ", " ", "  ", "create  t", " create t", "create t ",
                       "put t  1 2", "put t 1  2", "put t 1 2 ", "scan t ", "get t '' ",
                       "put t ''  ''", "create ", "save ", "put  1 2", "get t ", "put t 1 ",
                       "put t  2", "begin  "):
            with self.subTest(string):
                self.assert_unreadable(string)

    def test_tabs_and_newlines(self):
        for string in ("begin\n", "\nbegin", "create\tt", "create\nt", "create t\t",
                       "create t\n", "get t '\t'", "get t '\n'", "get t 1\r"):
            with self.subTest(string):
                self.assert_unreadable(string)

    def test_percent(self):
        for string in ("%", "get t '%'", "get t %1", "create %", "create t%"):
            with self.subTest(string):
                self.assert_unreadable(string)

    def test_digits_and_letters_of_other_scripts(self):
        for string in ("get t \u0661", "get t \u00b2", "create \u00e9", "create \u0430"):
            with self.subTest(string):
                self.assert_unreadable(string)

    def test_long_strings(self):
        for string in ("x" * 200, "x" * 201, "begin" + " " * 195, "begin" + " " * 196,
                       "get t '" + "a" * 192 + "'", "get t '" + "a" * 193 + "'",
                       "get t " + "1" * 194, "get t " + "1" * 195, "get t " + "1" * 10000):
            with self.subTest(len(string)):
                self.assert_unreadable(string)

    def test_what_is_no_string(self):
        for thing in (None, 0, 5, -1, True, False, (), [], ("begin",), ["begin"], b"begin", {},
                      {"begin": 1}, 1.5, object()):
            with self.subTest(repr(thing)):
                self.assert_unreadable(thing)


if __name__ == "__main__":
    unittest.main()
