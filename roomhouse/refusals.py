"""The refusals, one error class for each, and the check that comes before all else."""


class OutOfRange(Exception):
    """A number isn't in its range: -8."""


class NoPages(Exception):
    """There are no pages for it: -7."""


class RunKept(Exception):
    """A run's mark says that it may not be given up: -6. Only pages' own calls refuse so."""


class NoBlock(Exception):
    """No block begins there, or not all of the bytes are one block's: -5."""


def check_range(number, least, most):
    if number < least or number > most:
        raise OutOfRange()
