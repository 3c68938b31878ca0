"""The parts of a query: each one a name and a value, which is None if there is none."""


def values_named(parts, name):
    return [part[1] for part in parts if part[0] == name]


def with_value(parts, name, value):
    """The first part of this name gets the value and later ones go; without one, it comes last."""
    changed = []
    found = False
    for part in parts:
        if part[0] != name:
            changed.append(part)
        elif not found:
            changed.append((name, value))
            found = True
    if not found:
        changed.append((name, value))
    return changed


def without_name(parts, name):
    return [part for part in parts if part[0] != name]
