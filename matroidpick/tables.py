"""Whether all exchanges between the choices of a table are there."""

from matroidpick.choices import exchanged


def fault(count, table):
    """Tell the first missing exchange as (one, other, thing), or None."""
    listed = listing(table)
    things = things_had(count, table)
    for one in table:
        for thing in things:
            if thing not in one:
                other = first_unmet(table, thing, outs_for(listed, one, thing))
                if other is not None:
                    return list(one), list(other), thing
    return None


def listing(table):
    """Tell the table's choices as the keys of a dict, to be looked up."""
    return {tuple(choice): True for choice in table}


def things_had(count, table):
    """List the things below `count` that some choice has, rising."""
    # A thing that no choice has can miss no exchange, and a count may be large.
    return sorted({thing for choice in table for thing in choice if thing < count})


def outs_for(listed, choice, thing):
    """List the things of the choice that can go for the thing, in the choice's order."""
    return [out for out in choice if tuple(exchanged(choice, out, thing)) in listed]


def first_unmet(table, thing, outs):
    """Tell the first choice that has the thing and lacks none of the outs, or None."""
    for other in table:
        if thing in other and all([out in other for out in outs]):
            return other
    return None
