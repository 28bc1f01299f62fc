"""Words and whole numbers: what counts as one."""

MOST_LETTERS = 8


def is_word(thing):
    """Whether the thing is a text of 1 to 8 letters a to z."""
    if not isinstance(thing, str) or not 1 <= len(thing) <= MOST_LETTERS:
        return False
    return all(["a" <= letter <= "z" for letter in thing])


def is_whole(thing):
    """Whether the thing is a whole number."""
    # To Python True and False are numbers, to this program they are not.
    return isinstance(thing, int) and not isinstance(thing, bool)
