"""Checks of values of any kind."""

from scaleborn.errors import NoThing, Twice

_LETTERS = "abcdefghijklmnopqrstuvwxyz"
_SIGNS = "0123456789abcdefghijklmnopqrstuvwxyz"
_LONGEST = 12


def is_integer(value):
    """Whether it is an integer; True and False are none."""
    return isinstance(value, int) and not isinstance(value, bool)


def is_within(value, least, most):
    """Whether it is an integer from least to most, None being no bound."""
    if not is_integer(value):
        return False
    return (least is None or value >= least) and (most is None or value <= most)


def is_name(value):
    """Whether it is a name."""
    if not isinstance(value, str) or not 1 <= len(value) <= _LONGEST:
        return False
    return value[0] in _LETTERS and all([sign in _SIGNS for sign in value])


def is_list(value):
    """Whether it is a list or a tuple."""
    return isinstance(value, (list, tuple))


def are_names(value):
    """Whether it is a list or a tuple of names."""
    return is_list(value) and all([is_name(item) for item in value])


def is_naming(value):
    """Whether it is a dict from names to names."""
    return isinstance(value, dict) and are_names(list(value)) and are_names(list(value.values()))


def need_different(names):
    """Raise Twice for the first name that stood ahead."""
    stood = {}
    for name in names:
        if name in stood:
            raise Twice(name)
        stood[name] = True


def need_things(known, names):
    """Raise NoThing for the first name that is not among the known ones."""
    for name in names:
        if name not in known:
            raise NoThing(name)


def name_above(name):
    """The least name above a name, or above "": None above the greatest one."""
    if name == "":
        return "a"
    if len(name) < _LONGEST:
        return name + "0"
    stem = name.rstrip("z")
    if stem == "":
        return None
    return stem[:-1] + _SIGNS[_SIGNS.find(stem[-1]) + 1]


def free_name(name, taken):
    """The least name above a name, or above "", that is not taken: None if there is none."""
    above = name_above(name)
    while above is not None and above in taken:
        above = name_above(above)
    return above
