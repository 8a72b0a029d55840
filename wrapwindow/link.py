"""One link: its sender, its receiver, and the two channels between them."""

from wrapwindow.packets import Channel
from wrapwindow.parameters import are_safe
from wrapwindow.receiver import Receiver
from wrapwindow.sender import Sender


class Link:
    def __init__(self, w, m, k, r, o):
        self.safe = are_safe([w, m, k, r, o])
        self.frames = Channel(k)
        self.acks = Channel(r)
        self.sender = Sender(w, m, self.frames)
        self.receiver = Receiver(w, m, o == 1)

    def in_transit(self):
        item_count = len(self.sender.all_items)
        return [number for number in range(item_count) if not self.receiver.has_delivered(number)]

    # What was received out of order can still wait for delivery, so that an acknowledgement
    # tells of a delivery only on a link that isn't ordered.
    def known_in_transit(self):
        if self.receiver.ordered:
            return list(range(self.sender.base, len(self.sender.all_items)))
        return self.sender.unacknowledged()

    def repeat_windows(self, round_limit):
        rounds = 0
        while rounds < round_limit and self.sender.window_count() > 0:
            self.repeat_window()
            rounds += 1
        return rounds

    def repeat_window(self):
        for number in range(self.sender.base, self.sender.next_number):
            if self.sender.awaits_acknowledgement(number):
                self.sender.send_frame(number)
                self.receiver.receive_frame(self.frames.take_newest())
        self.acks.send(self.receiver.ack_fields())
        self.sender.receive_ack(self.acks.take_newest())
        self.sender.move_window()
