"""What is picked by weight, and the way to it from any full choice."""

from matroidpick.choices import exchanged
from matroidpick.errors import NoWeights
from matroidpick.rules import full_choice


def order(weights):
    """List the things, the heavier ahead, of equally heavy ones the lesser."""
    ranked = sorted([(-weight, thing) for thing, weight in enumerate(weights)])
    return [thing for _, thing in ranked]


def picked(rule, weights):
    """Tell the full choice, rising, that is picked by the weights."""
    check_weights(rule, weights)
    kept = []
    for thing in order(weights):
        if rule.together([*kept, thing]):
            kept.append(thing)
    return sorted(kept)


def way(rule, weights, choice):
    """List the exchanges (out, thing) that lead from the choice to what is picked."""
    goal = picked(rule, weights)
    held = full_choice(rule, choice)
    steps = []
    # What has come in never goes again, so going through the order once finds each next thing.
    for thing in order(weights):
        if thing in goal and thing not in held:
            least = min([out for out in rule.outs(held, thing) if out not in goal])
            held = exchanged(held, least, thing)
            steps.append((least, thing))
    return steps


def check_weights(rule, weights):
    """Refuse with NoWeights where there is not a weight for each thing."""
    if len(weights) != rule.count:
        raise NoWeights("there is not a weight for each thing")
