"""Sets of input rows: lists of numbers in ascending order, or masks with one bit for each member."""


def set_key(numbers):
    """Returns a tuple that compares as the set does: by its size, then by its least numbers."""
    return len(numbers), numbers


def members(mask, entries):
    """Returns the set with a mask. Its bits stand for the input rows of the ascending list entries."""
    return [entry for at, entry in enumerate(entries) if mask >> at & 1]


def least_masks(masks, most):
    """Returns those sets of which no other one is a part, or more than most of them if there are more."""
    least = []
    # A mask is greater than the masks of all its parts, so these come first.
    for mask in sorted(set(masks)):
        if not has_part(mask, least):
            least.append(mask)
        if len(least) > most:
            break
    return least


def has_part(mask, others):
    """Returns whether one of some other sets is a part of a set."""
    for other in others:
        if other & mask == other:
            return True
    return False
