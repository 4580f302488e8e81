"""What is wrong with bytes that are read, and where."""

FAULT_CUT = 1
FAULT_SHORT = 2
FAULT_COUNT = 4
FAULT_LEFT = 10
FAULT_TAG = 11
FAULT_VALUE = 12
FAULT_BOUNDS = 16


class Fault(Exception):
    def __init__(self, kind, place):
        self.kind = kind
        self.place = place
