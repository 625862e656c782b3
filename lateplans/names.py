"""NAMEs, and values that may be anything."""


def is_name(word):
    """Whether this string is a NAME: 1 to 8 letters a to z."""
    return 1 <= len(word) <= 8 and all(["a" <= sign <= "z" for sign in word])


def ascends(items):
    """Whether each item is greater than the one ahead of it."""
    return all([before < behind for before, behind in zip(items, items[1:])])


def is_number(thing):
    """Whether thing is a number; True and False are none."""
    return isinstance(thing, int) and not isinstance(thing, bool)


def is_set_of(names, thing):
    """Whether thing is a set of some of the names, which ascend."""
    return isinstance(thing, tuple) and thing == tuple([name for name in names if name in thing])


def tupled(thing):
    """The same with tuples in the places of all lists."""
    if isinstance(thing, (list, tuple)):
        return tuple([tupled(item) for item in thing])
    return thing


def is_written(word):
    """Whether this string is a number from 0, in decimal digits without a needless 0 in front."""
    if word == "" or not all(["0" <= sign <= "9" for sign in word]):
        return False
    return word == "0" or word[0] != "0"
