"""The names in scope: what each of them is bound to, which names a part binds, and which it has from outside.

A scope is a dict of the names in it. It is never changed: a name that is bound within gets a scope of its own, so
that the names of outside are as they were behind it.
"""

from plainspeak.errors import NoName
from plainspeak.words import values_behind


def with_name(scope, name, bound):
    inner = dict(scope)
    inner[name] = bound
    return inner


def looked_up(scope, name):
    if name not in scope:
        raise NoName("nothing binds this name", name)
    return scope[name]


# A part binds these names in the last of the parts within it, and in no other; the last name is the innermost.
def names_bound(part):
    return values_behind(part, "name")


# Each name once, in the order in which they come in the part.
def outside_names(part):
    if part[0] == "name":
        return [part[1]]
    found = {}
    bound = names_bound(part)
    parts = values_behind(part, "part")
    for place, inner in enumerate(parts, start=1):
        for name in outside_names(inner):
            if place < len(parts) or name not in bound:
                found[name] = True
    return list(found)
