"""What the tests share."""


def refuse(*given, **named):
    raise AssertionError("what is handed in was changed")


class Untouched(list):
    """A list that tells at once when it is changed, even if it is changed back."""

    __setitem__ = __delitem__ = __iadd__ = __imul__ = refuse
    append = clear = extend = insert = pop = remove = reverse = sort = refuse
