"""Comparing names of a type: by which atoms they are apart, and which of them are always the same."""

from itertools import combinations

from authsync.changes import without
from authsync.errors import Refused
from authsync.rounds import combined
from authsync.schema import definition, names_of
from authsync.tables import check_name

ATOM_LIMIT = 12


def atoms_of(schema, kind, name):
    """Return the atoms of a name of a type, ascending."""
    check_name(schema, kind, name)
    return sorted({atom for one in _names_below(schema, kind, name) for atom in _own_atoms(schema, kind, one)})


def is_held(schema, kind, name, atoms):
    """Return whether a name of a type holds where just some atoms do."""
    return _holding(schema, kind, name, [atoms]) != {}


def apart(schema, kind, one, other):
    """Return the fewest atoms by which one name holds and another does not; None if there are none."""
    atoms = _atoms_of_both(schema, kind, one, other)
    _check_number(atoms)
    return _least_apart(schema, kind, one, other, atoms)


def example(schema, kind, one, other, subject_kind):
    """Return the fewest relationships of a subject by which it has one name and not another; None without any."""
    atoms = _atoms_of_both(schema, kind, one, other)
    direct = [atom for atom in atoms if _admits(schema, kind, atom, subject_kind)]
    found = _least_apart(schema, kind, one, other, direct)
    if found is None:
        return None
    return [(f"{kind}:x", name, f"{subject_kind}:y") for _, name in found]


def classes_of(schema, kind):
    """Return the lists of those names of a type that are never apart."""
    names = names_of(schema, kind)
    atoms = {name: atoms_of(schema, kind, name) for name in names}
    for one, other in combinations(names, 2):
        _check_number(_joined(atoms[one], atoms[other]))
    classes = []
    for name in names:
        # One name of a class stands for all of them, as they hold by the same atoms.
        fellows = [known for known in classes if _are_same(schema, kind, known[0], name)]
        if fellows == []:
            classes.append([name])
        else:
            fellows[0].append(name)
    return classes


def _needs(schema, kind, name):
    """Return the names of the same object that a permission needs, none for a relation."""
    word, parts = definition(schema, kind, name)
    if word == "relation":
        return []
    return [needed for _, relation, needed in parts if relation == ""]


def _reached(schema, kind, name):
    """Return a name and all that it needs, directly or not."""
    reached = {name: True}
    waiting = [name]
    while waiting:
        here = waiting.pop()
        for needed in _needs(schema, kind, here):
            if needed not in reached:
                reached[needed] = True
                waiting.append(needed)
    return list(reached)


def _names_below(schema, kind, name):
    """Return a name and all that it needs, each behind those that it needs itself."""
    left = _reached(schema, kind, name)
    ordered = []
    while left:
        ready = [one for one in left if without(_needs(schema, kind, one), ordered) == []]
        if ready == []:
            raise Refused("recursive permission")
        ordered.extend(ready)
        left = [one for one in left if one not in ready]
    return ordered


def _own_atoms(schema, kind, name):
    """Return the atom of a relation, or those that are terms of a permission itself."""
    word, parts = definition(schema, kind, name)
    if word == "relation":
        return [("", name)]
    return [(relation, needed) for _, relation, needed in parts if relation != ""]


def _joined(atoms, others):
    """Return the atoms that are among some or among others, ascending."""
    return sorted(set(atoms) | set(others))


def _atoms_of_both(schema, kind, one, other):
    """Return the atoms of two names together, ascending."""
    first = atoms_of(schema, kind, one)
    return _joined(first, atoms_of(schema, kind, other))


def _check_number(atoms):
    """Raise Refused if there are too many atoms to try all choices of them."""
    if len(atoms) > ATOM_LIMIT:
        raise Refused("too many to try")


def _admits(schema, kind, atom, subject_kind):
    """Return whether an atom is a relation that admits objects of a type."""
    relation, name = atom
    return relation == "" and (subject_kind, "") in definition(schema, kind, name)[1]


def _are_same(schema, kind, one, other):
    """Return whether two names hold by the same atoms."""
    return apart(schema, kind, one, other) is None and apart(schema, kind, other, one) is None


def _least_apart(schema, kind, one, other, atoms):
    """Return the least of the fewest atoms, out of some, by which two names are apart; None if there are none."""
    for size in range(len(atoms) + 1):
        choices = [list(choice) for choice in combinations(atoms, size)]
        held = _holding(schema, kind, one, choices)
        numbers = combined("-", held, _holding(schema, kind, other, choices))
        if numbers != {}:
            return choices[min(numbers)]
    return None


def _holding(schema, kind, name, choices):
    """Return the dict of the numbers of those choices of atoms by which a name holds."""
    by_atom = {}
    for number, choice in enumerate(choices):
        for atom in choice:
            by_atom.setdefault(atom, {})[number] = True
    by_name = {}
    # All choices are tried at once, and each name only once, however often others need it.
    for one in _names_below(schema, kind, name):
        word, parts = definition(schema, kind, one)
        if word == "relation":
            by_name[one] = by_atom.get(("", one), {})
        else:
            by_name[one] = _holding_by_terms(parts, by_name, by_atom)
    return by_name[name]


def _holding_by_terms(terms, by_name, by_atom):
    """Return the dict of the numbers of the choices by which the terms of a permission hold, from left to right."""
    holding = {}
    for operator, relation, needed in terms:
        side = by_name[needed] if relation == "" else by_atom.get((relation, needed), {})
        holding = combined(operator, holding, side)
    return holding
