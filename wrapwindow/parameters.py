"""The parameters of a link, as the list w, m, k, r, o: their ranges, and whether they are safe."""

# The conditions that parameters can violate, and that they violate none.
NO_CONDITION = 0
FRAME_CONDITION = 1
ACK_CONDITION = 2


def are_in_range(parameters):
    w = parameters[0]
    m = parameters[1]
    k = parameters[2]
    r = parameters[3]
    o = parameters[4]
    return 1 <= w <= 8 and w + 1 <= m <= 200 and 1 <= k <= 20 and 1 <= r <= 12 and 0 <= o <= 1


def violated_condition(parameters):
    w = parameters[0]
    m = parameters[1]
    k = parameters[2]
    r = parameters[3]
    if m < 2 * w + k - 1:
        return FRAME_CONDITION
    if m <= r * w:
        return ACK_CONDITION
    return NO_CONDITION


def are_safe(parameters):
    return violated_condition(parameters) == NO_CONDITION
