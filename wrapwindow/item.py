"""What an item is: an event or an anti-message, told by how many numbers it has."""

# The lowest and the highest number at each place of an item.
EVENT_RANGES = ((1, 99999), (0, 999), (0, 6), (0, 9999), (0, 5), (0, 5), (-9999, 9999))
ANTI_MESSAGE_RANGES = ((1, 99999), (0, 5), (0, 999))
EVENT_TIME_PLACE = 1
ANTI_MESSAGE_TIME_PLACE = 2


def is_item(numbers):
    if len(numbers) == len(EVENT_RANGES):
        return all_within(numbers, list(EVENT_RANGES))
    if len(numbers) == len(ANTI_MESSAGE_RANGES):
        return all_within(numbers, list(ANTI_MESSAGE_RANGES))
    return False


def time_of(item):
    if len(item) == len(EVENT_RANGES):
        return item[EVENT_TIME_PLACE]
    return item[ANTI_MESSAGE_TIME_PLACE]


def all_within(numbers, ranges):
    for number, limits in zip(numbers, ranges):
        if number < limits[0] or number > limits[1]:
            return False
    return True
