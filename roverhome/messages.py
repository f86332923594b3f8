"""The messages between the rover and the people's end: eight bytes, a number's lowest first."""

from roverhome.ways import is_cost

KEEP_OUT = 1
HAD = 2
SEEN = 3
ANSWER = 4

LENGTH = 8

# The highest number that a message's two bytes can hold.
MOST_NUMBER = 65535

# What an answer says.
NO = 0
YES = 1

# How it's told behind an answer that a message was sent.
SENT = 3

# The link loses messages: each end sends its first open one again at each so many ticks.
TICKS_APART = 5


def message(kind, number, first, second):
    """A message of this kind; first and second are the bytes behind its number."""
    return [kind, 0, number % 256, number // 256, first, second, 0, 0]


def send(kind, number, first, second):
    return [SENT] + message(kind, number, first, second)


def number_of(m):
    return m[2] + 256 * m[3]


def is_framed(m, kind):
    """Whether m is as told for this kind, but for the two bytes behind its number."""
    if len(m) != LENGTH or m[0] != kind or number_of(m) == 0:
        return False
    return m[1] == 0 and m[6] == 0 and m[7] == 0


def is_keep_out(m, size):
    return is_framed(m, KEEP_OUT) and m[4] < size and m[5] == 0


def is_had(m):
    return is_framed(m, HAD) and m[4] == 0 and m[5] == 0


def is_seen(m, size):
    return is_framed(m, SEEN) and m[4] < size and is_cost(m[5])


def is_answer(m):
    return is_framed(m, ANSWER) and (m[4] == NO or m[4] == YES) and m[5] == 0
