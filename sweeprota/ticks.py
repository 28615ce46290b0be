"""Checks the ticks and the other numbers that are passed to functions."""

from sweeprota.errors import InvalidNumber, InvalidTick

LAST_TICK = 10 ** 18


def is_integer(value):
    """Returns whether a value is an integer; True and False are none."""
    return isinstance(value, int) and not isinstance(value, bool)


def check_tick(tick, lowest=0, highest=LAST_TICK):
    """Raises InvalidTick unless a value is an integer from lowest to highest."""
    if not is_integer(tick) or not lowest <= tick <= highest:
        raise InvalidTick(f"not an integer from {lowest} to {highest}")


def check_number(number, lowest, highest):
    """Raises InvalidNumber unless a value is an integer from lowest to highest."""
    if not is_integer(number) or not lowest <= number <= highest:
        raise InvalidNumber(f"not an integer from {lowest} to {highest}")
