"""The numbers that refuse a call."""

BAD_KIND = -1
NO_KIND = -2
BAD_NUMBER = -3
BAD_VALUE = -4
TOO_MANY = -5
NO_BOUNDS = -6
TOO_LONG = -8
NO_EXAMPLE = -9

# A fault in bytes is refused with this less the fault's kind.
BAD_BYTES = -20
