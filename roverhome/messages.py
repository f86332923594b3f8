"""The messages between the rover and the people's end: eight bytes, a number's lowest first."""

KEEP_OUT = 1
HAD = 2
SEEN = 3
ANSWER = 4

LENGTH = 8

# How it's told behind an answer that a message was sent.
SENT = 3


def message(kind, number, first, second):
    """A message of this kind; first and second are the bytes behind its number."""
    return [kind, 0, number % 256, number // 256, first, second, 0, 0]


def send(kind, number, first, second):
    return [SENT] + message(kind, number, first, second)


def number_of(m):
    return m[2] + 256 * m[3]


def is_framed(m, kind):
    """Whether m is as told for this kind, but for the two bytes behind its number."""
    if len(m) != LENGTH or m[0] != kind or number_of(m) == 0:
        return False
    return m[1] == 0 and m[6] == 0 and m[7] == 0


def is_keep_out(m, size):
    return is_framed(m, KEEP_OUT) and m[4] < size and m[5] == 0


def is_had(m):
    return is_framed(m, HAD) and m[4] == 0 and m[5] == 0
