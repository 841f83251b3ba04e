"""Profiles, and the sector expressions to which they belong.

Of a model only the sectors are read here.
"""


def profile_of(model, names):
    """The number of the profile that contains the sectors with these names."""
    return sum([1 << k for k, name in enumerate(model[0]) if name in names])


def names_of(model, profile):
    """The names of the sectors that the profile contains, in the order of the model."""
    return tuple([name for k, name in enumerate(model[0]) if (profile >> k) & 1])


def profile_count(model):
    """How many profiles the model has; they are numbered from 0."""
    return 1 << len(model[0])


def belongs(model, profile, sector):
    """Whether the profile belongs to the sector expression."""
    word = sector[0]
    if word == "all":
        return True
    if word == "none":
        return False
    if word == "sector":
        return sector[1] in names_of(model, profile)
    if word == "not":
        return not belongs(model, profile, sector[1])
    if word == "and":
        return belongs(model, profile, sector[1]) and belongs(model, profile, sector[2])
    return belongs(model, profile, sector[1]) or belongs(model, profile, sector[2])


def profiles(model, sector):
    """The profiles that belong to the sector expression, ascending."""
    return tuple([profile for profile in range(profile_count(model)) if belongs(model, profile, sector)])


def distinguish(model, first, second):
    """The least profile that belongs to exactly one of the expressions, or None."""
    for profile in range(profile_count(model)):
        if belongs(model, profile, first) != belongs(model, profile, second):
            return profile
    return None


def exactly(model, profile):
    """The expression to which this profile alone belongs."""
    if model[0] == ():
        return ("all",)
    contained = names_of(model, profile)
    parts = [("sector", name) if name in contained else ("not", ("sector", name)) for name in model[0]]
    joined = parts[0]
    for part in parts[1:]:
        joined = ("and", joined, part)
    return joined
