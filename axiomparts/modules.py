"""Modules: the part of the axioms that a signature needs."""

from axiomparts.models import is_local


class Module:
    """The indexes of a module's axioms, ascending, and the module's signature."""

    def __init__(self, indexes, names, roles):
        self.indexes = indexes
        self.names = names
        self.roles = roles

    def listed(self):
        """The number of axioms, and behind it their indexes."""
        return [len(self.indexes)] + self.indexes


def module_for(axioms, names, roles):
    """The module of the axioms for the signature."""
    inside = []
    while True:
        added = [
            index for index, axiom in enumerate(axioms)
            if index not in inside and not is_local(axiom, names, roles)]
        if len(added) == 0:
            return Module(sorted(inside), names, roles)
        # Only behind the round, as its axioms are all held against one signature.
        for index in added:
            inside.append(index)
            names = names | axioms[index].used_names()
            roles = roles | axioms[index].used_roles()
