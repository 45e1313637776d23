"""The forms that values have: words, groups of words, rights, integers."""

LONGEST_WORD = 8
LETTERS = "abcdefghijklmnopqrstuvwxyz"


def is_integer(value):
    """Whether a value is an integer; Booleans are none."""
    return isinstance(value, int) and not isinstance(value, bool)


def is_place(value, many):
    """Whether a value is the place of one of so many things."""
    return is_integer(value) and 0 <= value < many


def is_row(value):
    """Whether a value is a list or a tuple."""
    return isinstance(value, (list, tuple))


def is_word(value, longest=LONGEST_WORD):
    """Whether a value is a string of some small letters from a to z."""
    if not isinstance(value, str) or not 1 <= len(value) <= longest:
        return False
    return value.isascii() and value.isalpha() and value.islower()


def is_group(value, many):
    """Whether a value is a tuple of so many words."""
    return isinstance(value, tuple) and len(value) == many and all([is_word(word) for word in value])


def are_words(value, longest=LONGEST_WORD):
    """Whether a value is a list or tuple of words that all differ."""
    if not is_row(value) or not all([is_word(word, longest) for word in value]):
        return False
    return len(set(value)) == len(value)


def is_triple(value):
    """Whether a value is a tuple of three strings, as each right is."""
    if not isinstance(value, tuple) or len(value) != 3:
        return False
    return isinstance(value[0], str) and isinstance(value[1], str) and isinstance(value[2], str)


def is_right(value, names):
    """Whether a value is a right between two of some names."""
    return is_triple(value) and is_word(value[1]) and value[0] in names and value[2] in names


def are_rights(value, names):
    """Whether a value is a list or tuple of rights between some names."""
    if not is_row(value) or not all([is_triple(right) for right in value]):
        return False
    known = {name: True for name in names}
    if not all([one in known and other in known for one, _, other in value]):
        return False
    # there are few words in many rights, so each word is looked at once
    words = {right[1]: True for right in value}
    return all([is_word(word) for word in words])


def as_group(value):
    """A copy of a value with tuples in the place of all lists in it."""
    if is_row(value):
        return tuple([as_group(part) for part in value])
    return value


def as_rows(value):
    """A new list of the things in a list or tuple, lists in these as tuples."""
    return [as_group(part) for part in value]
