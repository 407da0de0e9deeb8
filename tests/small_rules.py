"""What the tests go through: every rule of few things, found by a plain reading of [3]."""

import itertools


def sized(count, size):
    return [list(choice) for choice in itertools.combinations(range(count), size)]


def rows_of(count):
    """Every set of the things, rising."""
    return [choice for size in range(count + 1) for choice in sized(count, size)]


def is_right(table):
    """Whether all exchanges are there, straight from [3]."""
    full = {frozenset(choice) for choice in table}
    return all(
        any(one - {out} | {thing} in full for out in one - other)
        for one in full
        for other in full
        for thing in other - one
    )


def tables_of(count):
    """Every table, choices of one size, in which no exchange is missing."""
    found = []
    for size in range(count + 1):
        choices = sized(count, size)
        for many in range(1, len(choices) + 1):
            for picks in itertools.combinations(choices, many):
                if is_right(picks):
                    found.append([list(choice) for choice in picks])
    return found


def small_tables(most):
    """(count, table) of every rule of up to so many things."""
    return [(count, table) for count in range(most + 1) for table in tables_of(count)]
