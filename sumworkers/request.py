"""The numbers by which requests and their answers are told."""

BEGIN = 1
LOG = 2
DATA = 3
END = 4

GRANTED = 1
WAIT = 2
SHUT_OUT = 3
