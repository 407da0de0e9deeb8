"""What is worked out of a single choice."""


def exchanged(choice, out, thing):
    """Tell the choice without `out` and with `thing`: a new list, rising."""
    kept = [held for held in choice if held != out]
    return sorted([*kept, thing])


def weigh(weights, choice):
    """Tell the sum of the weights of the choice's things."""
    return sum([weights[thing] for thing in choice])
