"""The failure trace: the steps on a new link that make it fail if its parameters aren't safe."""

from wrapwindow.call_numbers import DELIVER_ACK, DELIVER_FRAME, RETRANSMIT, SEND_ACK, SEND_ITEM
from wrapwindow.parameters import ACK_CONDITION, FRAME_CONDITION, violated_condition


# Each step is the list of numbers that tells it: a call's number, and what the call is given but for its link.
def failure_steps(parameters):
    condition = violated_condition(parameters)
    if condition == FRAME_CONDITION:
        return late_frame_steps(parameters[0], parameters[1])
    if condition == ACK_CONDITION:
        return late_ack_steps(parameters[0], parameters[1])
    return []


# The frame that is sent again comes so late that the receiver takes number 0 for number M.
def late_frame_steps(w, m):
    steps = []
    for number in range(w):
        steps.extend(transfer_steps(number, 0))
    steps.append([RETRANSMIT, 0])
    steps.extend(acknowledge_steps(0))
    # From here on the frame that was sent again stands ahead of each other one.
    for number in range(w, m + 1 - w):
        steps.extend(transfer_steps(number, 1))
        steps.extend(acknowledge_steps(0))
    steps.append([DELIVER_FRAME, 0, 0])
    return steps


# The first acknowledgement comes so late that the sender takes the missing number 0 for number M.
def late_ack_steps(w, m):
    steps = [[SEND_ACK]]
    windows = (m + w - 1) // w - 1
    for window in range(windows):
        for number in range(window * w, window * w + w):
            steps.extend(transfer_steps(number, 0))
        # The first acknowledgement stands ahead of each other one.
        steps.extend(acknowledge_steps(1))
    for number in range(windows * w, windows * w + w):
        steps.append(send_step(number))
    steps.append([DELIVER_ACK, 0, 0])
    return steps


def transfer_steps(number, place):
    return [send_step(number), [DELIVER_FRAME, place, 0]]


def acknowledge_steps(place):
    return [[SEND_ACK], [DELIVER_ACK, place, 0]]


def send_step(number):
    item = [number + 1, 0, 5]
    return [SEND_ITEM, len(item)] + item
