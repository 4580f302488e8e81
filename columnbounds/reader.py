"""Bytes read from the front to the back."""

from columnbounds.faults import FAULT_CUT, FAULT_SHORT, Fault

SHORT_BYTES = 10


class Reader:
    def __init__(self, data):
        self.data = data
        self.place = 0

    def next_byte(self):
        if self.place == len(self.data):
            raise Fault(FAULT_CUT, len(self.data))
        byte = self.data[self.place]
        self.place = self.place + 1
        return byte

    def next_bytes(self, many):
        end = self.place + many
        if end > len(self.data):
            raise Fault(FAULT_CUT, len(self.data))
        taken = self.data[self.place:end]
        self.place = end
        return taken

    def next_short(self):
        start = self.place
        number = 0
        weight = 1
        for step in range(SHORT_BYTES):
            byte = self.next_byte()
            number = number + byte % 128 * weight
            weight = weight * 128
            if byte < 128:
                # A last byte 0 adds nothing: the number could have been written in fewer bytes.
                if byte == 0 and step > 0:
                    raise Fault(FAULT_SHORT, start)
                return number
        raise Fault(FAULT_SHORT, start)

    def next_signed(self):
        number = self.next_short()
        if number % 2 == 0:
            return number // 2
        return -((number + 1) // 2)
