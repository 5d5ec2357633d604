"""Loan deeds: doing them, whether they are tidy, and other deeds made of them."""

from quickways.cells import AddressLoans, CopyLoans
from quickways.errors import BadDeed, NoEntry


def play(loans, deeds):
    """Does the deeds in order and returns the values that the read deeds give."""
    values = []
    for at, deed in enumerate(deeds):
        value = _do(loans, at, deed)
        if deed[0] == "read":
            values.append(value)
    return values


def both_ways(places, deeds):
    """Yields the index of each read deed with its value with addresses and its value with copies."""
    plain = AddressLoans(places)
    quick = CopyLoans(places)
    for at, deed in enumerate(deeds):
        value = _do(plain, at, deed)
        copied = _do(quick, at, deed)
        if deed[0] == "read":
            yield at, value, copied


def parted_read(places, deeds):
    """The index of the first read deed whose two values differ, or None."""
    told = list(both_ways(places, deeds))
    for at, value, copied in told:
        if value != copied:
            return at
    return None


def first_untidy(places, deeds):
    """The index of the first deed that is not tidy, or None."""
    _require_fitting(places, deeds)
    loans = AddressLoans(places)
    for at, deed in enumerate(deeds):
        if loans.loans_on(_touched(deed)):
            return at
        _do(loans, at, deed)
    return None


def surrounded(places, deeds, *, mark):
    """The deeds surrounded with a value, or None if all of them are tidy."""
    at = first_untidy(places, deeds)
    if at is None:
        return None
    front = list(deeds[:at])
    loans = AddressLoans(places)
    play(loans, front)
    return front + _surrounding(loans, front, deeds[at], mark)


def straightened(places, deeds):
    """The deeds in which each touched spot is replaced by the end of the place to which it leads."""
    _require_fitting(places, deeds)
    given = AddressLoans(places)
    made = AddressLoans(places)
    found = []
    for at, deed in enumerate(deeds):
        end = _end_of(made, given.root(_touched(deed)))
        straight = _touching(deed, end)
        _do(given, at, deed)
        _do(made, at, straight)
        found.append(straight)
    return found


def _do(loans, at, deed):
    """Does the deed of an index; returns the value that a read deed gives."""
    try:
        return _done(loans, deed)
    except NoEntry as why:
        raise BadDeed(at) from why


def _done(loans, deed):
    if deed[0] == "begin":
        return loans.begin(deed[1], deed[2])
    if deed[0] == "read":
        return loans.value_at(deed[1])
    if deed[0] == "write":
        return loans.set_at(deed[1], deed[2])
    return loans.over(deed[1])


def _require_fitting(places, deeds):
    """Raises BadDeed for the first deed of the whole list that does not fit."""
    play(AddressLoans(places), deeds)


def _touched(deed):
    """The spot that a deed touches."""
    return deed[2] if deed[0] == "begin" else deed[1]


def _touching(deed, spot):
    """The deed in which the spot that it touches is replaced."""
    if deed[0] == "begin":
        return ("begin", deed[1], spot)
    return (deed[0], spot) + deed[2:]


def _end_of(loans, spot):
    """The end of a spot: the loan that began first on it, and so on."""
    end = spot
    on_it = loans.loans_on(end)
    while on_it:
        end = on_it[0]
        on_it = loans.loans_on(end)
    return end


def _surrounding(loans, front, deed, mark):
    """The deeds in the place of the first deed that is not tidy."""
    spot = _touched(deed)
    end = _end_of(loans, spot)
    if deed[0] == "begin":
        return [("write", end, mark), deed, ("read", deed[1])]
    if deed[0] == "read":
        return [("write", end, mark), deed]
    if deed[0] == "write":
        return [("write", spot, mark), ("read", end)]
    target = [told[2] for told in front if told[0] == "begin" and told[1] == spot][0]
    return [deed, ("write", end, mark), ("read", target)]
