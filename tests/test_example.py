"""The example at the end of the document, to the byte."""

import doctest
import unittest

from batchends.wires import client_bytes

EXAMPLE = """
>>> from batchends.client import Client
>>> from batchends.server import Server
>>> client, server = Client(), Server()
>>> client.connect()
>>> server.accept()
>>> data = client.take(1000)
>>> data
[1, 0, 8, 0, 0, 0, 0, 0, 0, 0, 0]
>>> server.receive(data)
>>> client.receive(server.take(1000))
>>> (client.phase, client.session)
('open', 1)
>>> client.prepare("s", "create t")
0
>>> client.bind("p", "s", ())
1
>>> client.run("p")
2
>>> client.sync()
1
>>> server.receive(client.take(1000))
>>> server.take(11)
[4, 0, 1, 0, 5, 0, 0, 9, 0, 1, 0]
>>> server.tables()
[('t', [])]
"""


class Example(unittest.TestCase):
    def test_each_line(self):
        names = {}
        test = doctest.DocTestParser().get_doctest(EXAMPLE, names, "example", None, 0)
        result = doctest.DocTestRunner(verbose=False).run(test, clear_globs=False)
        self.assertEqual((result.failed, result.attempted), (0, 17))
        client, server = test.globs["client"], test.globs["server"]
        self.assertEqual(server.waiting, 8)
        rest = server.take(1000)
        self.assertEqual(rest, [3, 0, 5, 0, 0, 0, 1, 0])
        client.receive([4, 0, 1, 0, 5, 0, 0, 9, 0, 1, 0] + rest)
        self.assertEqual(client.outcome(1),
                         ("none", [("prepared", 0), ("bound",), ("complete", 0)]))

    def test_the_bytes_of_bind(self):
        self.assertEqual(client_bytes(("bind", "p", "s", (-1, "a"))),
                         [3, 0, 13, 1, 112, 1, 115, 2, 0, 255, 255, 255, 255, 1, 1, 97])


if __name__ == "__main__":
    unittest.main()
