"""What any object is asked for, whatever it may be."""

from math import gcd, lcm

LETTERS = "abcdefghijklmnopqrstuvwxyz"
FIGURES = "0123456789"
LONGEST_NAME = 8


def is_integer(thing):
    return isinstance(thing, int) and not isinstance(thing, bool)


def is_number(thing):
    return is_integer(thing) and thing >= 0


def is_from_one(thing):
    return is_integer(thing) and thing >= 1


def is_list(thing):
    return isinstance(thing, (list, tuple))


def is_pair(thing):
    return is_list(thing) and len(thing) == 2


def is_name(thing):
    if not isinstance(thing, str) or not 1 <= len(thing) <= LONGEST_NAME:
        return False
    return thing[0] in LETTERS and all([sign in LETTERS or sign in FIGURES for sign in thing])


def first_stranger(things, known):
    """The index of the first thing that is none of the known names or stood before, None if there is none."""
    seen = set()
    for index, thing in enumerate(things):
        # Only strings are looked up: other things may be none that a dict can be asked for.
        if not isinstance(thing, str) or thing not in known or thing in seen:
            return index
        seen.add(thing)
    return None


def keys_lacking(thing, keys, fits):
    """The list of the keys that a dict from some of them to what fits lacks, None for what is no such dict."""
    if not isinstance(thing, dict) or len(thing) > len(keys):
        return None
    there = [key for key in keys if key in thing]
    if len(there) != len(thing) or not all([fits(thing[key]) for key in there]):
        return None
    return [key for key in keys if key not in thing]


def is_book(thing, keys, fits):
    """Whether this is a dict from just all keys to what fits."""
    return keys_lacking(thing, keys, fits) == []


def fraction(top, bottom):
    """Both in lowest terms."""
    common = gcd(top, bottom)
    return top // common, bottom // common


def added_up(parts):
    """All fractions of a list together, whether or not they are in lowest terms."""
    whole = 1
    for _, bottom in parts:
        whole = lcm(whole, bottom)
    return fraction(sum([top * (whole // bottom) for top, bottom in parts]), whole)
