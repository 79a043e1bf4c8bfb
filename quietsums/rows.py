"""Rows: dicts from keys to numbers other than 0 of a modulus, and what some rows span.

The least key of a row leads it. Names begin with a letter. So a key that begins with a space
leads before all names, and one that begins with a tilde leads only if the row has no names.
"""

FRONT = " "
CONSTANT = "~"
BACK = "~~"


def inverse(modulus, number):
    """Return the number with which a number other than 0 has the product 1."""
    return [other for other in range(1, modulus) if number * other % modulus == 1][0]


def cleared(modulus, row, basis):
    """Return the row minus multiples of the rows of a basis, so that it has none of their leading keys."""
    rest = dict(row)
    for lead, times in row.items():
        if lead in basis:
            for key, weight in basis[lead].items():
                rest[key] = rest.get(key, 0) - times * weight
    return {key: left % modulus for key, left in rest.items() if left % modulus != 0}


def echelon(modulus, rows):
    """Return the basis of what some rows span: a dict from the leading keys, sorted, to the reduced rows."""
    found = {}
    for row in rows:
        rest = cleared(modulus, row, found)
        if len(rest) > 0:
            lead = min(rest)
            scale = inverse(modulus, rest[lead])
            reduced = {key: weight * scale % modulus for key, weight in rest.items()}
            for other in list(found):
                if lead in found[other]:
                    found[other] = cleared(modulus, found[other], {lead: reduced})
            found[lead] = reduced
    return {lead: found[lead] for lead in sorted(found)}


def marked(row, names):
    """Return the row in which the keys that are among some names stand in front of all others."""
    return {(FRONT + key if key in names else key): weight for key, weight in row.items()}


def rows_behind(modulus, rows):
    """Return a basis of those rows that the rows span and that have no key in front of the names."""
    found = echelon(modulus, rows)
    return [row for lead, row in found.items() if not lead.startswith(FRONT)]


def rows_without(modulus, rows, names):
    """Return a basis of those rows that the rows span and that have none of the names."""
    barred = {name: True for name in names}
    return rows_behind(modulus, [marked(row, barred) for row in rows])


def rows_shared(modulus, rows, others):
    """Return a basis of what both lists of rows span."""
    # A row stands twice in each combination of the first list. If some rows of the second list
    # cancel its front copy, its other copy is in both spans.
    doubled = [{**row, **marked(row, row)} for row in rows]
    single = [marked(row, row) for row in others]
    return rows_behind(modulus, doubled + single)


def multiples(modulus, rows, target):
    """Return a list of numbers so that these multiples of the rows add up to the target, or None."""
    numbered = [{**row, BACK + str(at): 1} for at, row in enumerate(rows)]
    rest = cleared(modulus, target, echelon(modulus, numbered))
    if not all([key.startswith(BACK) for key in rest]):
        return None
    return [-rest.get(BACK + str(at), 0) % modulus for at in range(len(rows))]
