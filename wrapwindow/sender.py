"""The sender of a link: its window, its queue, and what acknowledgements do to them."""

from wrapwindow.item import time_of
from wrapwindow.packets import ACCEPTED, CORRUPTED, IGNORED, number_meant


class Sender:
    # The window is the numbers from base to the one before next_number; the queue is those behind.
    def __init__(self, window_size, modulus, frames):
        self.window_size = window_size
        self.modulus = modulus
        self.frames = frames
        self.all_items = []
        self.base = 0
        self.next_number = 0
        self.acknowledged = {}
        # Kept apart from the items: an item keeps its time when its content is dropped.
        self.dropped = {}

    def add_item(self, item):
        self.all_items.append(item)

    def has_content(self, number):
        return number not in self.dropped

    def in_window(self, number):
        return self.base <= number < self.next_number

    def window_count(self):
        return self.next_number - self.base

    def queue_count(self):
        return len(self.all_items) - self.next_number

    def awaits_acknowledgement(self, number):
        return self.in_window(number) and number not in self.acknowledged

    # No number of the queue is ever acknowledged, so that the window's end needn't be asked for.
    def unacknowledged(self):
        item_count = len(self.all_items)
        return [number for number in range(self.base, item_count) if number not in self.acknowledged]

    def times_of(self, numbers):
        return [time_of(self.all_items[number]) for number in numbers]

    def drop_contents(self, time):
        dropped_before = len(self.dropped)
        for number in range(self.base, self.next_number):
            if time_of(self.all_items[number]) < time:
                self.dropped[number] = True
        return len(self.dropped) - dropped_before

    def send_frame(self, number):
        fields = [number % self.modulus]
        if self.has_content(number):
            fields.extend(self.all_items[number])
        self.frames.send(fields)

    def receive_ack(self, packet):
        if packet.is_corrupted():
            return CORRUPTED
        missing = number_meant(packet.fields[0], self.modulus, self.base, self.next_number)
        if missing is None:
            return IGNORED
        for number in range(self.base, missing):
            self.acknowledged[number] = True
        for distance, field in enumerate(packet.fields):
            if distance > 0 and field == 1 and self.in_window(missing + distance):
                self.acknowledged[missing + distance] = True
        return ACCEPTED

    def move_window(self):
        self.advance_base()
        return self.fill_window()

    def advance_base(self):
        while self.base in self.acknowledged:
            self.base += 1

    def fill_window(self):
        first = self.next_number
        end = min(self.base + self.window_size, len(self.all_items))
        while self.next_number < end:
            self.send_frame(self.next_number)
            self.next_number += 1
        return self.next_number - first
