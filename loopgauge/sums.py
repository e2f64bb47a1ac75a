"""Sums over rows: what gauges, reasons and spots are worked out with."""


def with_one(rows, many):
    """The rows and behind them the one that is worth 1 everywhere.

    It takes the weight of a reason that belongs to no ask, and is the last
    number of a state, which every way leaves as it is.
    """
    return rows + [[0] * many + [1]]


def columns(rows, many):
    """What the rows have at each place, place by place."""
    return [[row[at] for row in rows] for at in range(many + 1)]


def product_sum(numbers, others):
    """The sum of the products of the numbers at the same places."""
    return sum(number * other for number, other in zip(numbers, others))


def weighed(rows, weights, many):
    """The rows, each times its weight, summed up place by place."""
    return [product_sum(column, weights) for column in columns(rows, many)]
