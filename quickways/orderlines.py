"""The form of orders, wherever they are given."""

from quickways.errors import BadOrder


def read_order(line, forms):
    """The word of an order and the list of the items behind it; raises BadOrder(1) if it has none of the forms.

    A form is a tuple of a word, the least and the greatest number of items behind it, None for any number."""
    items = line.split(" ")
    if "" in items:
        raise BadOrder(1)
    many = len(items) - 1
    for word, least, most in forms:
        if word == items[0] and least <= many and (most is None or many <= most):
            return word, items[1:]
    raise BadOrder(1)
