"""Packets, the channels that they are in, and what a wrapped number stands for."""

CHECKSUM_MODULUS = 1000003

# What has become of a packet that was received.
CORRUPTED = 0
IGNORED = 1
ACCEPTED = 2


def checksum_of(fields):
    total = 97 * len(fields)
    for place, field in enumerate(fields, start=1):
        total += place * field
    return total % CHECKSUM_MODULUS


# M is larger than W, so that no two of the numbers asked about have the same remainder.
def number_meant(field, modulus, lowest, highest):
    for number in range(lowest, highest + 1):
        if number % modulus == field:
            return number
    return None


class Packet:
    def __init__(self, fields, sent_before):
        self.fields = fields
        self.checksum = checksum_of(fields)
        self.sent_before = sent_before

    def is_corrupted(self):
        return self.checksum != checksum_of(self.fields)

    def has_place(self, place):
        return 0 <= place <= len(self.fields)

    def change(self, place, number):
        if place == len(self.fields):
            self.checksum = number
        else:
            self.fields[place] = number


class Channel:
    def __init__(self, lifetime):
        self.lifetime = lifetime
        self.sent_count = 0
        self.packets = []

    # The age is counted from the packets sent, not from those still here: lost ones count, too.
    def send(self, fields):
        self.packets.append(Packet(fields, self.sent_count))
        self.sent_count += 1
        oldest = self.sent_count - self.lifetime
        self.packets = [packet for packet in self.packets if packet.sent_before >= oldest]

    def holds(self, place):
        return 0 <= place < len(self.packets)

    def packet_at(self, place):
        return self.packets[place]

    def lose(self, place):
        self.packets.pop(place)

    def take_newest(self):
        return self.packets.pop()
