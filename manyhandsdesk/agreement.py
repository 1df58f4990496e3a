"""The least errors of a kind's individuals against a specimen's sets, and which kinds a record may be of."""

from manyhandsdesk.bounds import ALL_STATES


def kinds_of(book, record):
    """The kinds that the record may be of, by number."""
    least = least_errors(book, record.sets)
    return [kind for kind, errors in enumerate(least) if errors <= record.errors]


def kinds_by_errors(book, record):
    """The kinds that the record may be of, each behind its least errors: by these, then by number."""
    least = least_errors(book, record.sets)
    return sorted([(errors, kind) for kind, errors in enumerate(least) if errors <= record.errors])


def least_errors(book, sets):
    """Of each kind the least errors that an individual of it has against the sets."""
    key = tuple(sets)
    if key not in book.found:
        book.found[key] = [kind_errors(book.characters, forms, sets) for forms in book.forms_of]
    return book.found[key]


def kind_errors(characters, forms, sets):
    return min([form_errors(characters, form, sets) for form in forms])


def form_errors(characters, form, sets):
    """The least errors of the form's individuals; it has at least one."""
    # levels[k][e]: the states of character k with which it and all that hangs on it have e errors at the least.
    levels = [[states & seen, states & (ALL_STATES ^ seen)] for states, seen in zip(form, sets)]
    total = 0
    # From the last to the first: what hangs on a character comes behind it, and so is added to it before its turn.
    for k in range(len(characters) - 1, -1, -1):
        parent = characters[k].parent
        if parent is None:
            total = total + first_level(levels[k], ALL_STATES)
        else:
            levels[parent] = with_hanging(levels[parent], characters[k].applies_in, levels[k])
    return total


def with_hanging(levels, applies_in, hanging):
    """A character's levels, with the errors added of one that hangs on it and has those levels."""
    applied = first_level(hanging, ALL_STATES ^ 1)
    not_applied = first_level(hanging, 1)
    added = [0] * (len(levels) + len(hanging))
    for errors, states in enumerate(levels):
        if applied is not None:
            added[errors + applied] = added[errors + applied] | states & applies_in
        if not_applied is not None:
            added[errors + not_applied] = added[errors + not_applied] | states & (ALL_STATES ^ applies_in)
    return added


def first_level(levels, states):
    """The least errors that one of these states has, None if no level has any of them."""
    for errors, level in enumerate(levels):
        if level & states != 0:
            return errors
    return None
