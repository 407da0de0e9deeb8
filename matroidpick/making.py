"""Rules that are made of numbers, or of other rules."""

from itertools import combinations

from matroidpick.choices import lacked_by
from matroidpick.errors import NoChoice
from matroidpick.rules import Rule, check_things


def any_of(count, size):
    """Make the rule by which each choice of `size` of the things is full."""
    if size < 0 or size > count:
        raise NoChoice("there is no choice of so many things")
    return Rule(count, choices_of(count, size))


def joined(one, other):
    """Make the rule of the two side by side, the other's things behind the one's."""
    return Rule(one.count + other.count, beside(one.full, other.full, one.count))


def bins(rows):
    """Make the rule of the bins (many, most): of each as many things as it may give."""
    if any([most < 0 for _, most in rows]):
        raise NoChoice("no bin gives less than no thing")
    count = 0
    table = [[]]
    for many, most in rows:
        table = beside(table, choices_of(many, min(many, most)), count)
        count += many
    return Rule(count, table)


def turned(rule):
    """Make the rule by which full is what a full choice leaves."""
    return Rule(rule.count, [lacked_by(rule.count, choice) for choice in rule.full])


def without(rule, thing):
    """Make the rule without the thing: of the full choices that lack it."""
    check_things(rule.count, [thing])
    return closed_up(rule, thing, [choice for choice in rule.full if thing not in choice])


def taken(rule, thing):
    """Make the rule with the thing taken: of the full choices that have it."""
    check_things(rule.count, [thing])
    return closed_up(rule, thing, [choice for choice in rule.full if thing in choice])


def choices_of(count, size):
    """List all choices of `size` of so many things."""
    return [list(choice) for choice in combinations(range(count), size)]


def beside(table, others, ahead):
    """List each choice of the table with each of the others, whose things are counted on."""
    return [[*choice, *[ahead + thing for thing in other]] for choice in table for other in others]


def closed_up(rule, thing, choices):
    """Make the rule of the choices, or of all where there is none, the thing being taken out."""
    if not choices:
        choices = rule.full
    return Rule(rule.count - 1, [lowered(choice, thing) for choice in choices])


def lowered(choice, gone):
    """Tell the choice without the thing that is gone, those behind it being one less."""
    return [thing - 1 if thing > gone else thing for thing in choice if thing != gone]
