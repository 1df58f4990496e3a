"""Counts of a book's kinds in records, and the places where a kind may be."""

from manyhandsdesk.agreement import kinds_of


def bounds_by_kind(book, records):
    """Of each kind, by number: how many individuals of it the records have at least, at most."""
    bounds = [[0, 0] for forms in book.forms_of]
    for record in records:
        kinds = kinds_of(book, record)
        for kind in kinds:
            bounds[kind][1] = bounds[kind][1] + record.individuals
        if len(kinds) == 1:
            bounds[kinds[0]][0] = bounds[kinds[0]][0] + record.individuals
    return bounds


def places_of_kind(book, records, kind):
    """The places of records that may be of the kind, in order, each with 1 if a record there is certain, else 0."""
    certain = {}
    for record in records:
        kinds = kinds_of(book, record)
        if kind in kinds:
            place = tuple(record.place)
            certain[place] = 1 if len(kinds) == 1 else certain.get(place, 0)
    return [(list(place), certain[place]) for place in sorted(certain)]
