"""The parameters of a link: their ranges, and whether they are safe."""


def are_in_range(w, m, k, r, o):
    return 1 <= w <= 8 and w + 1 <= m <= 200 and 1 <= k <= 20 and 1 <= r <= 12 and 0 <= o <= 1


def are_safe(w, m, k, r):
    return m >= 2 * w + k - 1 and m > r * w
