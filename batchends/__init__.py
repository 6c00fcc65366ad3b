"""Batchends: a client and a server that go on after lost connections."""
