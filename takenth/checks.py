"""What a whole number is, and the refusal of anything else."""

from takenth.errors import NoNumber


def is_whole(thing, least, most):
    """Tell whether a thing is a whole number from least to most."""
    # Python counts True and False among the ints; the document does not.
    if not isinstance(thing, int) or isinstance(thing, bool):
        return False
    return least <= thing <= most


def check_number(thing, least, most):
    """Refuse anything but a whole number from least to most."""
    if not is_whole(thing, least, most):
        raise NoNumber(f"not a whole number from {least} to {most}")
