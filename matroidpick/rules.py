"""A rule: which of so many things may be together."""

from matroidpick.choices import lacked_by
from matroidpick.errors import NoChoice, NoExchange, NoThing
from matroidpick.tables import fault, listing, outs_for


class Rule:
    """So many things, and their full choices, with all exchanges between them."""

    def __init__(self, count, table):
        if not table:
            raise NoChoice("a rule has one full choice at least")
        for choice in table:
            check_things(count, choice)
        full = risen(table)
        if fault(count, full) is not None:
            raise NoExchange("an exchange between two of the choices is missing")
        self.count = count
        self.full = full
        self.size = len(full[0])

    def together(self, things):
        """Tell whether some full choice has all of the things."""
        return self.rank(things) == len(things)

    def rank(self, things):
        """Tell the most of the things that are together."""
        check_things(self.count, things)
        return max([len(set(things) & set(choice)) for choice in self.full])

    def outs(self, choice, thing):
        """List the things of the full choice that can go for the thing, rising."""
        held = full_choice(self, choice)
        check_things(self.count, [thing])
        if thing in held:
            raise NoThing("the choice has the thing")
        return outs_for(listing(self.full), held, thing)

    def exchanges(self, choice):
        """List (thing, outs) for each thing that the full choice lacks, by the thing."""
        held = full_choice(self, choice)
        listed = listing(self.full)
        return [(thing, outs_for(listed, held, thing)) for thing in lacked_by(self.count, held)]


def check_things(count, things):
    """Refuse with NoThing what is no thing below the count, and a thing told twice."""
    # The messages leave the things out: a number of too many figures can't be told in a text.
    if not all([0 <= thing < count for thing in things]):
        raise NoThing("there is no such thing in the rule")
    if len(set(things)) != len(things):
        raise NoThing("a thing stands twice")


def risen(table):
    """List the table's choices anew, each rising, each once, ordered as lists."""
    return [list(choice) for choice in sorted({tuple(sorted(choice)) for choice in table})]


def full_choice(rule, choice):
    """Tell the choice anew, rising; refuse it where it is no full choice of the rule."""
    check_things(rule.count, choice)
    held = sorted(choice)
    if held not in rule.full:
        raise NoChoice("the choice is not full")
    return held
