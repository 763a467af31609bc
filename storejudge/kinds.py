"""Of what kind a thing is, whatever it is: asked wherever things of any kind are handed in."""


def is_whole(thing):
    # Python counts True and False among its whole numbers; here they are none.
    return isinstance(thing, int) and not isinstance(thing, bool)


def is_between(thing, low, high):
    """Whether it is a whole number from low to high, both counted in."""
    return is_whole(thing) and low <= thing <= high


def is_tuple_of(thing, length):
    return isinstance(thing, tuple) and len(thing) == length


def are_whole(things):
    return all([is_whole(thing) for thing in things])


def are_rising(numbers):
    """Whether each number is above the one ahead of it, so that none stands twice."""
    return all([numbers[k] < numbers[k + 1] for k in range(len(numbers) - 1)])
