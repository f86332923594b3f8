"""What's answered where a call is refused."""

BAD_VALUE = -22
BAD_MESSAGE = -71
NOT_ANSWERED = -16
NO_NUMBER_LEFT = -28
