"""The numbers by which a call is refused; what each of them means is told call by call."""

BAD_NUMBER = -1
NO_THING = -2
UNFIT = -3
FULL = -5
