"""Models: which concepts one element can have together, and locality.

A profile is a list that tells, row by row, whether an element has the concept
of the row. No model is built: it is enough to know which profiles occur in
some model, and the few atoms of the rows leave few profiles.
"""

from axiomparts.concepts import ALL, BOTH, EITHER, EVERY, LACK, NAME, SOME


def made_truth(row, profile):
    """Whether a concept that is no atom is had, told by the rows ahead of it."""
    head = row[0]
    if head == BOTH:
        return profile[row[2]] and profile[row[3]]
    if head == EITHER:
        return profile[row[2]] or profile[row[3]]
    if head == LACK:
        return not profile[row[2]]
    # Only 0, which each element has, and 1, which none has, are left.
    return head == ALL


def choices(row, profile, names, roles):
    """What the row can be behind this profile, where only the signature has a meaning."""
    head = row[0]
    if head not in (NAME, SOME, EVERY):
        return [made_truth(row, profile)]
    known = names if head == NAME else roles
    if (known >> row[1]) & 1 == 1:
        return [False, True]
    # With no pairs, "all that it is related to" is true of each element.
    return [head == EVERY]


def all_profiles(rows, names, roles):
    """The profiles that an element can have as far as it alone is looked at."""
    profiles = [[]]
    for row in rows:
        longer = []
        for profile in profiles:
            for truth in choices(row, profile, names, roles):
                longer.append(profile + [truth])
        profiles = longer
    return profiles


def restrictions(rows):
    """The rows that begin with 6 or 7, as (place, role, inner, witness).

    Where the truth of the row equals the witness, some related element is
    needed for which the truth of the inner row equals the witness too.
    """
    found = []
    for place, row in enumerate(rows):
        if row[0] in (SOME, EVERY):
            found.append((place, row[1], row[2], row[0] == SOME))
    return found


def can_relate(limits, role, source, target):
    """Whether an element of profile source may be related to one of target."""
    for place, limit_role, inner, witness in limits:
        if limit_role == role and target[inner] == witness and source[place] != witness:
            return False
    return True


def has_witness(limits, limit, source, profiles):
    """Whether one of the profiles is what this restriction needs behind source."""
    for target in profiles:
        if target[limit[2]] == limit[3] and can_relate(limits, limit[1], source, target):
            return True
    return False


def is_supported(limits, source, profiles):
    """Whether the profiles hold all that an element of profile source needs."""
    for limit in limits:
        if source[limit[0]] == limit[3] and not has_witness(limits, limit, source, profiles):
            return False
    return True


def lasting_profiles(rows, profiles):
    """Those of the profiles that occur in a model that has no other ones."""
    limits = restrictions(rows)
    lasting = profiles
    while True:
        # A profile that falls may have been the witness of others: look again.
        supported = [source for source in lasting if is_supported(limits, source, lasting)]
        if len(supported) == len(lasting):
            return lasting
        lasting = supported


def is_local(axiom, names, roles):
    """Whether the axiom, two concepts, is local for the signature."""
    first = axiom.tops[0]
    second = axiom.tops[1]
    for profile in lasting_profiles(axiom.rows, all_profiles(axiom.rows, names, roles)):
        if profile[first] and not profile[second]:
            return False
    return True
