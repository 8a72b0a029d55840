"""The receiver of a link: what it has received, delivered, and acknowledges."""

from wrapwindow.packets import ACCEPTED, CORRUPTED, IGNORED, number_meant


class Receiver:
    def __init__(self, window_size, modulus, ordered):
        self.window_size = window_size
        self.modulus = modulus
        self.ordered = ordered
        self.lowest_missing = 0
        self.received = {}
        # Pairs of a number and the item received under it, in the order of delivery.
        self.delivered = []

    def receive_frame(self, packet):
        if packet.is_corrupted():
            return CORRUPTED
        highest = self.lowest_missing + self.window_size - 1
        number = number_meant(packet.fields[0], self.modulus, self.lowest_missing, highest)
        if number is None or number in self.received or len(packet.fields) == 1:
            return IGNORED
        self.received[number] = packet.fields[1:]
        if not self.ordered:
            self.deliver(number)
        self.pass_received()
        return ACCEPTED

    def pass_received(self):
        while self.lowest_missing in self.received:
            if self.ordered:
                self.deliver(self.lowest_missing)
            self.lowest_missing += 1

    def deliver(self, number):
        self.delivered.append((number, self.received[number]))

    def has_delivered(self, number):
        if self.ordered:
            return number < self.lowest_missing
        return number in self.received

    # Nothing from x + W on has ever been accepted, as x never becomes smaller.
    def received_above(self):
        end = self.lowest_missing + self.window_size
        return [number for number in range(self.lowest_missing, end) if number in self.received]

    def ack_fields(self):
        fields = [self.lowest_missing % self.modulus]
        for distance in range(1, self.window_size):
            fields.append(1 if self.lowest_missing + distance in self.received else 0)
        return fields
