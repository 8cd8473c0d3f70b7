"""What right entries of a book say, one behind another."""


def orders_of(entries):
    """The list of the triples (one, other, number of the entry) of all orders."""
    return [
        (one, other, number)
        for number, (word, what) in enumerate(entries)
        if word == "orders"
        for one, other in what
    ]


def robots_inside(many, entries):
    """The lot of those of so many robots that are in behind these entries."""
    inside = [True] * many
    for word, what in entries:
        if word != "orders":
            inside[what] = word == "in"
    return tuple([robot for robot in range(many) if inside[robot]])
