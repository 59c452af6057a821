"""What may be handed in: the bounds, and the checks that refuse all else."""

from keepfew.errors import BadName, BadPlaces, BadRule, BadWishes

MOST_LETTERS = 8
MOST_PLACES = 20
MOST_WISHES = 300
RULES = ("old", "cold", "marked")

# The checks compare the kind itself instead of asking isinstance: True is an
# int for isinstance, and an object of a foreign class may answer it falsely.


def is_name(value):
    """Tell whether this is one to eight small letters a to z."""
    if type(value) != str or not 1 <= len(value) <= MOST_LETTERS:
        return False
    return all("a" <= sign <= "z" for sign in value)


def check_name(name):
    """Refuse what is no name."""
    if not is_name(name):
        raise BadName("a name is one to eight small letters a to z")


def check_places(places):
    """Refuse what is no number of places of a shelf."""
    if type(places) != int or not 1 <= places <= MOST_PLACES:
        raise BadPlaces(f"a shelf has 1 to {MOST_PLACES} places, a whole number")


def check_rule(rule):
    """Refuse what is no rule of a shelf."""
    # Only texts are compared: a foreign object may fail at a comparison.
    if type(rule) != str or rule not in RULES:
        raise BadRule("a shelf is old, cold or marked")


def check_wishes(wishes):
    """Refuse what is no list of wishes."""
    if type(wishes) != list or len(wishes) > MOST_WISHES:
        raise BadWishes(f"wishes are a list of none to {MOST_WISHES} names")
    for at, name in enumerate(wishes):
        if not is_name(name):
            raise BadWishes(f"wish {at} is no name of one to eight small letters a to z")
