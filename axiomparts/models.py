"""Models: which concepts one element can have together, and what follows.

A profile tells of one element which concepts it has. No model is built: it is
enough to know which profiles occur in some model, and the few atoms of the
rows leave few profiles.
"""

from axiomparts.concepts import ALL, BOTH, EITHER, EVERY, LACK, NAME, SOME


class Profile:
    """What one element has and needs.

    The truths tell, row by row, whether it has the concept of the row. The
    needs and the serves have for each role a number with a bit for each
    restriction, which stands at the place of its row: the needs tell which ask
    for an element that this one is related to, the serves tell for which this
    one would be such an element.
    """

    def __init__(self, truths, limits):
        self.truths = truths
        self.needs = [0, 0]
        self.serves = [0, 0]
        for place, role, inner, witness in limits:
            if truths[place] == witness:
                self.needs[role] = self.needs[role] | (1 << place)
            if truths[inner] == witness:
                self.serves[role] = self.serves[role] | (1 << place)

    def keeps(self, pair):
        """Whether it has the second concept of the pair if it has the first."""
        return self.truths[pair[1]] or not self.truths[pair[0]]


def restrictions(rows):
    """The rows that begin with 6 or 7, as (place, role, inner, witness).

    Where the truth of the row equals the witness, some related element is
    needed for which the truth of the inner row equals the witness too. Where
    it doesn't, there may be no such related element.
    """
    found = []
    for place, row in enumerate(rows):
        if row[0] in (SOME, EVERY):
            found.append((place, row[1], row[2], row[0] == SOME))
    return found


def made_truth(row, truths):
    """Whether a concept that is no atom is had, told by the rows ahead of it."""
    head = row[0]
    if head == BOTH:
        return truths[row[2]] and truths[row[3]]
    if head == EITHER:
        return truths[row[2]] or truths[row[3]]
    if head == LACK:
        return not truths[row[2]]
    # Only 0, which each element has, and 1, which none has, are left.
    return head == ALL


def choices(row, truths, names, roles):
    """What the row can be behind these truths, where only the signature has a meaning."""
    head = row[0]
    if head not in (NAME, SOME, EVERY):
        return [made_truth(row, truths)]
    known = names if head == NAME else roles
    if (known >> row[1]) & 1 == 1:
        return [False, True]
    # With no pairs, "all that it is related to" is true of each element.
    return [head == EVERY]


def all_profiles(rows, names, roles):
    """The profiles that an element can have as far as it alone is looked at."""
    begun = [[]]
    for row in rows:
        longer = []
        for truths in begun:
            for truth in choices(row, truths, names, roles):
                longer.append(truths + [truth])
        begun = longer
    limits = restrictions(rows)
    return [Profile(truths, limits) for truths in begun]


def served(needs, role, profiles):
    """What those of the profiles serve that an element of these needs may be related to."""
    found = 0
    for target in profiles:
        serves = target.serves[role]
        # What serves where nothing is needed would make that restriction's truth another one.
        if serves & ~needs == 0:
            found = found | serves
    return found


def is_supported(source, profiles):
    """Whether the profiles hold all that an element of profile source needs."""
    for role, needs in enumerate(source.needs):
        if served(needs, role, profiles) != needs:
            return False
    return True


def lasting_profiles(profiles):
    """Those of the profiles that occur in a model that has no other ones."""
    lasting = profiles
    while True:
        # A profile that falls may have been what others need: look again.
        supported = [source for source in lasting if is_supported(source, lasting)]
        if len(supported) == len(lasting):
            return lasting
        lasting = supported


def keep_all(profiles, pair):
    """Those of the profiles that keep to the pair."""
    return [profile for profile in profiles if profile.keeps(pair)]


def follows(concepts, names, roles):
    """Whether the axiom of the last two concepts follows from the axioms ahead of it.

    The concepts are these axioms, two each. Looked at are the models in which
    nothing outside the signature has a meaning.
    """
    tops = concepts.tops
    profiles = all_profiles(concepts.rows, names, roles)
    last = len(tops) - 2
    for at in range(0, last, 2):
        profiles = keep_all(profiles, (tops[at], tops[at + 1]))
    lasting = lasting_profiles(profiles)
    return len(keep_all(lasting, (tops[last], tops[last + 1]))) == len(lasting)


def is_local(axiom, names, roles):
    """Whether the axiom, two concepts, is local for the signature."""
    return follows(axiom, names, roles)


def is_subsumed(concepts):
    """Whether the last concept but one is subsumed by the last one with the axioms ahead of them."""
    return follows(concepts, concepts.used_names(), concepts.used_roles())
