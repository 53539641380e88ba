"""Queries as texts."""


def write_query(query):
    """Return a query as text."""
    return parts_text(query.parts)


def parts_text(parts):
    """Return the parts of a query as text."""
    row = ["from", parts.kind, parts.name]
    if parts.where is not None:
        row.extend(["where", parts.where.written()])
    if parts.groups is not None:
        row.extend(["group", "all"] if len(parts.groups) == 0 else ["group by", terms_text(parts.groups)])
    if len(parts.order) > 0:
        row.extend(["order by", terms_text(parts.order)])
    row.extend(["give", terms_text(parts.given)])
    if parts.skipped is not None:
        row.extend(["skip", parts.skipped.written()])
    if parts.kept is not None:
        row.extend(["first", parts.kept.written()])
    return " ".join(row)


def terms_text(terms):
    """Return terms with commas between them."""
    return ", ".join([term.written() for term in terms])
