"""A rule as a text, and a text as a rule."""

from matroidpick.errors import NoRule
from matroidpick.rules import Rule

FIGURES = "0123456789"


def shown(rule):
    """Write the rule: its count, and its full choices as lists are ordered."""
    choices = ", ".join([shown_choice(choice) for choice in rule.full])
    return f"{rule.count}: {choices}"


def read(text):
    """Make the rule that the text tells."""
    # Where there is no colon and blank, the choices are an empty text, which is refused.
    count, _, choices = text.partition(": ")
    return Rule(read_number(count), [read_choice(choice) for choice in choices.split(", ")])


def shown_choice(choice):
    """Write a choice."""
    if not choice:
        return "-"
    return " ".join([str(thing) for thing in choice])


def read_choice(text):
    """Tell the choice that the text tells, in the text's order."""
    if text == "-":
        return []
    return [read_number(word) for word in text.split(" ")]


def read_number(word):
    """Tell the number that the word tells; refuse a word that is none."""
    if not is_number(word):
        raise NoRule("there is no number where one must stand")
    return int(word)


def is_number(word):
    """Tell whether the word is one figure, or two the first of which is no nought."""
    # The method isdigit would take figures of other writings too.
    if len(word) not in (1, 2) or not all([sign in FIGURES for sign in word]):
        return False
    return len(word) == 1 or word[0] != "0"
