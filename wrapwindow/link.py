"""One link: its sender, its receiver, and the two channels between them."""

from wrapwindow.packets import Channel
from wrapwindow.parameters import are_safe
from wrapwindow.receiver import Receiver
from wrapwindow.sender import Sender


class Link:
    def __init__(self, w, m, k, r, o):
        self.safe = are_safe(w, m, k, r)
        self.frames = Channel(k)
        self.acks = Channel(r)
        self.sender = Sender(w, m, self.frames)
        self.receiver = Receiver(w, m, o == 1)
