"""What the pieces of a list of units are called, answer and refer to."""

from leastimage.objects import Object
from leastimage.rows import name_in
from leastimage.words import is_word


class Contents:
    """The pieces of a list of units by their keys, and what they refer to.

    All dicts have the order of the ranks; known_names has the one of Python.
    """

    def __init__(self, units):
        self.owners = owners_of(units)
        self.keyed = {key: self.owners[key].piece(key[2]) for key in self.owners}
        self.answers = answers_of(self.keyed)
        self.targets = targets_of(self.owners, self.keyed, self.answers)
        self.known_names = known_names_of(units, self.keyed, self.targets)

    def target_from(self, key, name):
        """The target of a name in the object of the piece with a key."""
        own = (key[0], key[1], name)
        return _target(own, self.owners[key], self.keyed, self.answers)


def is_strings(value, many):
    """Whether any value is a tuple of so many strings."""
    if not isinstance(value, tuple) or len(value) != many:
        return False
    return all([isinstance(item, str) for item in value])


def is_place(value):
    """Whether any value is a tuple of three strings and a number from 0 on."""
    # The number is looked at on its own: True is none, but it is equal to 1.
    if not isinstance(value, tuple) or not is_strings(value[:-1], 3):
        return False
    return is_word(value[3])


def objects_in(unit):
    """The pairs of the objects of a unit: a member's name, or none, and the object."""
    if isinstance(unit, Object):
        return [("", unit)]
    return [(member.name, member) for member in unit.members()]


def owners_of(units):
    """The objects that hold the pieces, by the keys of the pieces."""
    owners = {}
    for unit in units:
        for member, owner in objects_in(unit):
            for piece in owner.pieces():
                owners[unit.name, member, piece.name] = owner
    return owners


def answers_of(keyed):
    """The keys of the answers, by their names."""
    answers = {}
    for precedence in range(3):
        for key, piece in keyed.items():
            if _precedence(key, piece) == precedence:
                answers.setdefault(piece.name, key)
    return answers


def targets_of(owners, keyed, answers):
    """The targets of all references, by their places."""
    targets = {}
    for key, piece in keyed.items():
        for at, row in enumerate(piece.rows()):
            name = name_in(row)
            if name is not None:
                place = (*key, at)
                own = (key[0], key[1], name)
                targets[place] = _target(own, owners[key], keyed, answers)
    return targets


def known_names_of(units, keyed, targets):
    """A dict that has the known names, in ascending order."""
    # The last item of a target is the name that its reference has.
    names = [target[-1] for target in targets.values()]
    names.extend([piece.name for piece in keyed.values() if piece.is_shared()])
    for unit in units:
        for _, owner in objects_in(unit):
            names.extend(owner.outside())
    return {name: True for name in sorted(set(names))}


def _precedence(key, piece):
    """Pieces with a lower number answer first; 3 is that of pieces that never do."""
    if piece.is_strong():
        return 0 if key[1] == "" else 1
    return 2 if piece.is_shared() else 3


def _target(own, owner, keyed, answers):
    """The target of a name in an object whose piece of this name has the key own."""
    name = own[2]
    if own in keyed and not keyed[own].is_shared():
        return ("piece", *own)
    if name in owner.outside():
        return ("stub", name)
    answer = answers.get(name)
    if answer is None:
        return ("none", name)
    if keyed[answer].scope == "open":
        return ("stub", name)
    return ("piece", *answer)
