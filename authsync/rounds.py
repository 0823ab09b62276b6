"""Ranks, found stratum by stratum and round by round."""


def combined(operator, left, right):
    """Return the dict of those for which an operator holds, given those for which its two sides do."""
    if operator == "&":
        return {one: True for one in left if one in right}
    if operator == "-":
        return {one: True for one in left if one not in right}
    return {**left, **right}


class Rounds:
    """The subjects that are granted each of some pairs, with the numbers of the rounds that found them.

    With each of the pairs there are those on which it depends, except such as nothing can grant.
    If a subject is given, no other one is looked for.
    """

    def __init__(self, rules, pairs, subject=""):
        self._rules = rules
        self._subject = subject
        self._found = {pair: {} for pair in pairs}
        for level in self._levels():
            self._fill(level)

    def rank(self, pair, subject):
        """Return the rank of a grant, 0 for what is not granted."""
        return self._found.get(pair, {}).get(subject, 0)

    def holders(self, pair):
        """Return the subjects that are granted a pair, ascending."""
        return sorted(self._found.get(pair, {}))

    def ranks(self):
        """Return the dict from the grants to their ranks."""
        return {
            (target, name, subject): self._found[(target, name)][subject]
            for target, name in self._found
            for subject in self._found[(target, name)]
        }

    def _levels(self):
        """Return the lists of the pairs of one stratum each, the least stratum first."""
        levels = {}
        for pair in self._found:
            levels.setdefault(self._rules.stratum(pair), []).append(pair)
        return [levels[stratum] for stratum in sorted(levels)]

    def _users(self, level):
        """Return the dict from pairs to those of a level that depend on them."""
        users = {}
        for pair in level:
            for other in self._rules.depends_on(pair):
                users.setdefault(other, []).append(pair)
        return users

    def _fill(self, level):
        """Find all grants of one stratum."""
        users = self._users(level)
        todo = level
        number = 0
        while todo:
            number += 1
            # All that a round finds is kept only behind it, as it must not follow from itself.
            found = [(pair, subject) for pair in todo for subject in self._new_subjects(pair)]
            for pair, subject in found:
                self._found[pair][subject] = number
            # Only what depends on a pair that was found can find something more.
            todo = list({user: True for pair, _ in found for user in users.get(pair, [])})

    def _new_subjects(self, pair):
        """Return the subjects that the rule of a pair grants and that were not found before."""
        if self._rules.is_permission(pair):
            holders = self._permission_holders(pair)
        else:
            holders = self._relation_holders(pair)
        return [subject for subject in holders if subject not in self._found[pair]]

    def _relation_holders(self, pair):
        """Return the subjects to which a relation leads."""
        objects = self._rules.objects(pair)
        direct = {subject: True for subject in objects if self._subject in ("", subject)}
        return {**direct, **self._found_in(self._rules.references(pair))}

    def _permission_holders(self, pair):
        """Return the subjects for which the terms of a permission hold, from left to right."""
        holders = {}
        for operator, pairs in self._rules.terms(pair):
            holders = combined(operator, holders, self._found_in(pairs))
        return holders

    def _found_in(self, pairs):
        """Return the subjects that were found for at least one of some pairs."""
        return {subject: True for pair in pairs for subject in self._found.get(pair, {})}
