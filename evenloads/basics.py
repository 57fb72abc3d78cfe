"""The plain kinds of values that all other files build on."""


def is_integer(value):
    """Whether any value is an INTEGER: an int that is no bool."""
    return isinstance(value, int) and not isinstance(value, bool)


def is_count(value):
    """Whether any value is a COUNT: an INTEGER that is at least 0."""
    return is_integer(value) and value >= 0


def is_name(value):
    """Whether any value is a NAME: a string of one to eight letters from a to z."""
    # The empty string is not alphabetic.
    return isinstance(value, str) and len(value) <= 8 and value.isascii() and value.isalpha() and value.islower()


def is_name_list(value):
    """Whether any value is a list or tuple of different NAMES, perhaps empty."""
    if not isinstance(value, (list, tuple)):
        return False
    # Names first: other values may be such that no set takes them.
    return all([is_name(name) for name in value]) and len(set(value)) == len(value)


def sorted_names(names):
    """The sorted list of some NAMES, whatever holds them."""
    # What is sorted here is plainly text; moves have an order of their own, and are never sorted.
    return sorted([str(name) for name in names])


def least_count(counts):
    """The least of a list of COUNTS, at least one."""
    return min([int(count) for count in counts])
