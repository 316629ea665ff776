"""Families of sets of a few things.

A set is told as a number, in which thing v counts 2 to the power of v;
a family is told as a list of such numbers, rising, each once.
"""

NO_FAMILY = -22
NO_SET = -2
NOT_APART = -33
MOST_THINGS = 5
UP = 1
DOWN = 2


def is_family(n, x):
    """Tell whether n may be a number of things, and x a family of sets of these."""
    # n is asked ahead of the shift, which an n far beyond would make too large to hold.
    if n < 1 or n > MOST_THINGS:
        return False
    beyond = 1 << n
    least = 0
    for a in x:
        if a < least or a >= beyond:
            return False
        least = a + 1
    return True


def counted(found):
    """Answer how many sets were found, then these, rising, each once."""
    sets = sorted(set(found))
    return [len(sets)] + sets


def join(n, x, y):
    """Answer what either has, of each set of x and each set of y."""
    if not is_family(n, x) or not is_family(n, y):
        return [NO_FAMILY]
    found = []
    for a in x:
        for b in y:
            found.append(a | b)
    return counted(found)


def meet(n, x, y):
    """Answer what both have, of each set of x and each set of y."""
    if not is_family(n, x) or not is_family(n, y):
        return [NO_FAMILY]
    found = []
    for a in x:
        for b in y:
            found.append(a & b)
    return counted(found)


def less(n, x, y):
    """Answer what the one has and the other hasn't, of each set of x and each set of y."""
    if not is_family(n, x) or not is_family(n, y):
        return [NO_FAMILY]
    found = []
    for a in x:
        for b in y:
            found.append(a & ~b)
    return counted(found)


def below(n, x):
    """Answer all that is within some set of x."""
    if not is_family(n, x):
        return [NO_FAMILY]
    found = []
    for b in range(1 << n):
        if any([a & b == b for a in x]):
            found.append(b)
    return counted(found)


def above(n, x):
    """Answer all that some set of x is within."""
    if not is_family(n, x):
        return [NO_FAMILY]
    found = []
    for b in range(1 << n):
        if any([a & b == a for a in x]):
            found.append(b)
    return counted(found)


def kind(n, x):
    """Answer whether x has all that is above its sets, and all that is below them."""
    if not is_family(n, x):
        return [NO_FAMILY]
    told = 0
    if above(n, x)[1:] == x:
        told += UP
    if below(n, x)[1:] == x:
        told += DOWN
    return [told]


def both(n, x, y):
    """Answer how many sets x and y have in common."""
    if not is_family(n, x) or not is_family(n, y):
        return [NO_FAMILY]
    return [len([a for a in x if a in y])]


def has_all_like(n, x, a, things):
    """Tell whether x has all sets that have of these things just those that a has."""
    return all([b in x for b in range(1 << n) if b & things == a & things])


def is_apart_for(n, x, y, a, things):
    """Tell whether x has all that are like a at these things, and y all that are like it at all others."""
    return has_all_like(n, x, a, things) and has_all_like(n, y, a, ~things)


def apart(n, x, y):
    """Answer all sets that are in both apart."""
    if not is_family(n, x) or not is_family(n, y):
        return [NO_FAMILY]
    found = []
    # A set is like itself at whatever things, so that only one of x may be in both apart.
    for a in x:
        if any([is_apart_for(n, x, y, a, things) for things in range(1 << n)]):
            found.append(a)
    return counted(found)


def shown(n, w, x, y):
    """Answer the least set of things for which w is in both apart."""
    if not is_family(n, x) or not is_family(n, y):
        return [NO_FAMILY]
    if w >= 1 << n:
        return [NO_SET]
    for things in range(1 << n):
        if is_apart_for(n, x, y, w, things):
            return [things]
    return [NOT_APART]


def pressed_at(x, thing):
    """Give a new family: x with the thing taken out of each set, but where x has the set without it, too."""
    found = []
    for a in x:
        without = a & ~thing
        # A set that hasn't the thing is itself the one without it, and so stays.
        found.append(a if without in x else without)
    return found


def pressed(n, x):
    """Answer x pressed down, thing by thing."""
    if not is_family(n, x):
        return [NO_FAMILY]
    found = x
    for v in range(n):
        found = pressed_at(found, 1 << v)
    return counted(found)


def is_told_apart(n, x, things):
    """Tell whether each set within these things is what some set of x has of them."""
    had = [a & things for a in x]
    return all([b in had for b in range(1 << n) if b & things == b])


def shattered(n, x):
    """Answer all sets of things that are told apart by x."""
    if not is_family(n, x):
        return [NO_FAMILY]
    return counted([things for things in range(1 << n) if is_told_apart(n, x, things)])
