"""Letters, and words of them."""

LETTERS = "abcd"


def letters(many):
    return LETTERS[:many]


def is_word(thing, many):
    if not isinstance(thing, str):
        return False
    known = letters(many)
    return all([sign in known for sign in thing])
