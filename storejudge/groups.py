"""Groups: the deeds of a history that are joined by the keys that they touch."""

from storejudge.calls import REFUSED, keys_of
from storejudge.histories import look_over


def groups(history):
    look_over(history)
    found = []
    for number, deed in enumerate(history):
        if deed[4] != REFUSED:
            found = with_deed(found, keys_of(deed[3]), number)
    # No key stands in two groups: so they are sorted by their least keys.
    return sorted(found)


def with_deed(found, keys, number):
    """The groups with one deed more, which joins all those with a key of its own."""
    apart = [group for group in found if not share_key(group[0], keys)]
    numbers = [number]
    joined = list(keys)
    for group in found:
        if share_key(group[0], keys):
            joined.extend(group[0])
            numbers.extend(group[1])
    return apart + [(tuple(sorted(set(joined))), tuple(sorted(numbers)))]


def share_key(one, other):
    return any([key in other for key in one])


def part(history, numbers):
    return tuple([history[number] for number in numbers])
