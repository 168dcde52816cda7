"""What the making of machines has in common."""


def pairs_with(newest):
    # All two of the numbers from 0 to the newest one, one at the left and one at the right, with the newest among them.
    return [(newest, other) for other in range(newest + 1)] + [(other, newest) for other in range(newest)]
