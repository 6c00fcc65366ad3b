"""The interface, and the rules of LANGUAGE.md that can be checked simply."""

import ast
import builtins
import doctest
import inspect
import re
import unittest
from pathlib import Path

from batchends import client, server, sessions, statements, wires

FOLDER = Path(inspect.getfile(sessions)).parent
BUILTINS = set(
    "len range enumerate zip min max sum abs sorted reversed int str bool bytes list tuple dict "
    "set isinstance ord repr any all divmod ValueError Exception TypeError KeyError IndexError "
    "LookupError property".split()
)
BARRED = set("register mro elements open input law version_info with_traceback add_note".split())
BARRED_WORDS = re.compile(
    r"\b(type|typing|enum|Enum|Generic|Protocol|ABC|namedtuple|NamedTuple|TypedDict|_wall)\b"
    r"|dataclass|overload|contextmanager"
)


def files():
    """The names of the files of the package and their texts."""
    paths = [path for path in sorted(FOLDER.iterdir()) if path.name != "__pycache__"]
    return [(path.name, path.read_text("utf-8")) for path in paths]


def names_in(tree):
    """All names that a file reads, assigns or defines."""
    for node in ast.walk(tree):
        for field in ("id", "attr", "arg", "name"):
            name = getattr(node, field, None)
            if isinstance(name, str):
                yield name


class Interface(unittest.TestCase):
    def test_signatures(self):
        for function, words in (
            (statements.parse_statement, "(string)"),
            (statements.parameters, "(parts)"),
            (sessions.Session, "(tables=())"),
            (sessions.Session.run_batch, "(self, commands)"),
            (sessions.Session.tables, "(self)"),
            (sessions.Session.base, "(self)"),
            (wires.client_bytes, "(message)"),
            (wires.server_bytes, "(message)"),
            (wires.Wire, "(side)"),
            (wires.Wire.feed, "(self, data)"),
            (client.Client, "()"),
            (client.Client.prepare, "(self, name, string)"),
            (client.Client.bind, "(self, portal, name, values)"),
            (client.Client.run, "(self, portal, most=0)"),
            (client.Client.forget, "(self, name)"),
            (client.Client.close, "(self, portal)"),
            (client.Client.sync, "(self)"),
            (client.Client.connect, "(self)"),
            (client.Client.lost, "(self)"),
            (client.Client.take, "(self, most)"),
            (client.Client.receive, "(self, data)"),
            (client.Client.outcome, "(self, batch)"),
            (server.Server, "()"),
            (server.Server.accept, "(self)"),
            (server.Server.lost, "(self)"),
            (server.Server.take, "(self, most)"),
            (server.Server.receive, "(self, data)"),
            (server.Server.tables, "(self)"),
        ):
            with self.subTest(function.__qualname__):
                self.assertEqual(str(inspect.signature(function)), words)

    def test_where_they_are_defined(self):
        self.assertEqual(statements.parse_statement.__module__, "batchends.statements")
        self.assertEqual(statements.parameters.__module__, "batchends.statements")
        self.assertEqual(sessions.Session.__module__, "batchends.sessions")
        self.assertEqual(wires.client_bytes.__module__, "batchends.wires")
        self.assertEqual(wires.server_bytes.__module__, "batchends.wires")
        self.assertEqual(wires.Wire.__module__, "batchends.wires")
        self.assertEqual(client.Client.__module__, "batchends.client")
        self.assertEqual(server.Server.__module__, "batchends.server")

    def test_methods_are_in_the_classes_themselves(self):
        for owner, names in (
            (sessions.Session, "run_batch tables base"),
            (wires.Wire, "feed"),
            (client.Client, "prepare bind run forget close sync connect lost take receive outcome"),
            (server.Server, "accept lost take receive tables"),
        ):
            for name in names.split():
                with self.subTest(owner.__name__, name=name):
                    self.assertTrue(inspect.isfunction(vars(owner)[name]))

    def test_properties(self):
        for owner, names in (
            (client.Client, "phase reason session handed received waiting"),
            (server.Server, "phase reason session done known waiting"),
        ):
            for name in names.split():
                with self.subTest(owner.__name__, name=name):
                    self.assertIsInstance(vars(owner)[name], property)
                    self.assertRaises(AttributeError, setattr, owner(), name, 1)


class Readme(unittest.TestCase):
    def test_its_example(self):
        readme = (FOLDER.parent / "README.md").read_text("utf-8")
        examples = "\n".join(re.findall(r"```\n(>>> .*?)```", readme, re.S))
        test = doctest.DocTestParser().get_doctest(examples, {}, "README.md", None, 0)
        self.assertGreater(len(test.examples), 5)
        self.assertEqual(doctest.DocTestRunner(verbose=False).run(test).failed, 0)


class Language(unittest.TestCase):
    def test_files(self):
        for name, text in files():
            with self.subTest(name):
                self.assertRegex(name, r"\A[a-z0-9_]+\.py\Z")
                self.assertTrue(all(sign == "\n" or " " <= sign <= "~" for sign in text))
                self.assertLessEqual(len(text.splitlines()), 399)
                self.assertLessEqual(max(map(len, text.splitlines())), 120)

    def test_functions(self):
        for name, text in files():
            for node in ast.walk(ast.parse(text)):
                if isinstance(node, ast.FunctionDef):
                    with self.subTest(name, function=node.name):
                        self.assertLessEqual(node.end_lineno - node.lineno + 1, 40)
                        decorators = [ast.unparse(part) for part in node.decorator_list]
                        self.assertIn(decorators, ([], ["property"]))

    def test_imports(self):
        for name, text in files():
            for node in ast.walk(ast.parse(text)):
                with self.subTest(name):
                    self.assertNotIsInstance(node, ast.Import)
                    if isinstance(node, ast.ImportFrom):
                        self.assertRegex(node.module, r"\Abatchends\.[a-z]+\Z")
                        self.assertEqual(node.level, 0)
                        self.assertTrue(all(part.asname is None for part in node.names))

    def test_names(self):
        for name, text in files():
            with self.subTest(name):
                # Doctest makes a builtin of `_`, which stands for what is not used.
                used = set(names_in(ast.parse(text))) - {"_"}
                self.assertEqual(used & BARRED, set())
                self.assertEqual({word for word in used & set(dir(builtins))} - BUILTINS, set())
                self.assertIsNone(BARRED_WORDS.search(text))

    def test_strings(self):
        for name, text in files():
            for node in ast.walk(ast.parse(text)):
                if isinstance(node, ast.Constant):
                    with self.subTest(name, value=node.value):
                        self.assertNotIsInstance(node.value, (float, complex, bytes))
                        self.assertNotIn("%", str(node.value))


if __name__ == "__main__":
    unittest.main()
