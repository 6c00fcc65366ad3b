"""Limits that the bytes and both sides keep."""

MOST_COMMANDS = 20
MOST_BATCHES = 50
MOST_VALUES = 4
GREATEST_MOST = 1000
