"""Limits of numbers."""


def is_whole(value, least, most):
    """Tell whether the value is an integer from least to most."""
    # isinstance would let True and False pass.
    return type(value) is int and least <= value <= most
