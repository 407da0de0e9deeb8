"""What is worked out of a single choice."""


def exchanged(choice, out, thing):
    """Tell the choice without `out` and with `thing`: a new list, rising."""
    kept = [held for held in choice if held != out]
    return sorted([*kept, thing])


def lacked_by(count, choice):
    """List the things below `count` that the choice lacks, rising."""
    return [thing for thing in range(count) if thing not in choice]


def weigh(weights, choice):
    """Tell the sum of the weights of the choice's things."""
    return sum([weights[thing] for thing in choice])
