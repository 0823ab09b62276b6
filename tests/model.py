"""A slow, literal model of points 10, 14 and 15, and random schemas and relationships to compare by."""

from authsync.errors import BadSchema
from authsync.schema import read_schema

KINDS = ["user", "group", "doc"]


def parts_of(schema, kind, name):
    for known, entries in schema:
        for entry in entries:
            if (known, entry[0]) == (kind, name):
                return entry
    return None


def kind_of(target):
    return target.split(":")[0]


def model_strata(schema):
    """The least strata, found by raising them one by one as long as a demand of point 10 is broken."""
    levels = {(kind, entry[0]): 0 for kind, entries in schema for entry in entries}
    demands = []
    for kind, entries in schema:
        for name, word, parts in entries:
            if word == "relation":
                demands += [((kind, name), subject, 0) for subject in parts if subject[1]]
                continue
            for operator, relation, part in parts:
                distance = 1 if operator == "-" else 0
                if not relation:
                    demands.append(((kind, name), (kind, part), distance))
                    continue
                for led, plain in parts_of(schema, kind, relation)[2]:
                    if not plain and parts_of(schema, led, part):
                        demands.append(((kind, name), (led, part), distance))
    while True:
        broken = [(pair, needed, by) for pair, needed, by in demands if levels[pair] < levels[needed] + by]
        if not broken:
            return levels
        pair, needed, by = broken[0]
        levels[pair] = levels[needed] + by
        if levels[pair] > len(levels):
            return None


class Model:
    """The ranks of all grants of a schema and relationships, by trying each grant in each round."""

    def __init__(self, schema, relationships):
        self.schema = schema
        self.relationships = relationships
        self.levels = model_strata(schema)
        objects = {row[0] for row in relationships} | {row[2].split("#")[0] for row in relationships}
        self.objects = sorted(objects)
        self.ranks = {}
        for level in sorted(set(self.levels.values())):
            self.fill(level)

    def fill(self, level):
        number = 0
        grants = [
            (target, name, subject)
            for target in self.objects
            for (kind, name), stratum in self.levels.items()
            if kind == kind_of(target) and stratum == level
            for subject in self.objects
        ]
        while True:
            number += 1
            found = [grant for grant in grants if grant not in self.ranks and self.follows(grant)]
            if not found:
                return
            self.ranks.update({grant: number for grant in found})

    def follows(self, grant):
        target, name, subject = grant
        _, word, parts = parts_of(self.schema, kind_of(target), name)
        if word == "relation":
            return any(
                row[:2] == (target, name)
                and (row[2] == subject or ("#" in row[2] and (*row[2].split("#"), subject) in self.ranks))
                for row in self.relationships
            )
        held = False
        for operator, relation, part in parts:
            holds = self.term_holds(target, relation, part, subject)
            held = {"": holds, "|": held or holds, "&": held and holds, "-": held and not holds}[operator]
        return held

    def term_holds(self, target, relation, part, subject):
        if not relation:
            return (target, part, subject) in self.ranks
        return any(
            row[:2] == (target, relation) and "#" not in row[2] and (row[2], part, subject) in self.ranks
            for row in self.relationships
        )


def random_relation(rng, names):
    subjects = []
    for _ in range(rng.randint(1, 3)):
        kind = rng.choice(KINDS)
        named = rng.random() < 0.4 and names[kind]
        subjects.append(f"{kind}#{rng.choice(names[kind])}" if named else kind)
    return ", ".join(subjects)


def random_permission(rng, names, kind):
    terms = []
    for index in range(rng.randint(1, 4)):
        if rng.random() < 0.4:
            term = f"r{rng.randint(0, 2)}.{rng.choice(names[rng.choice(KINDS)] or ['p0'])}"
        else:
            term = rng.choice(names[kind])
        terms.append(term if index == 0 else rng.choice("|&-") + " " + term)
    return " ".join(terms)


def random_text(rng):
    names = {"user": rng.choice([[], ["r0"]]), "group": ["r0", "r1", "p0"], "doc": ["r0", "r1", "r2", "p0", "p1", "p2"]}
    lines = []
    for kind in KINDS:
        lines.append(f"type {kind}")
        for name in names[kind]:
            if name[0] == "r":
                lines.append(f"relation {name}: {random_relation(rng, names)}")
            else:
                lines.append(f"permission {name} = {random_permission(rng, names, kind)}")
    return "\n".join(lines)


def random_schema(rng):
    """A random schema; texts with faults are thrown away."""
    while True:
        try:
            return read_schema(random_text(rng))
        except BadSchema:
            continue


def random_relationship(rng, schema):
    rows = [
        (kind, name, subject)
        for kind, entries in schema
        for name, word, parts in entries
        if word == "relation"
        for subject in parts
    ]
    kind, name, (led, part) = rng.choice(rows)
    other = f"{led}:{rng.choice('ab')}"
    return (f"{kind}:{rng.choice('ab')}", name, f"{other}#{part}" if part else other)


def random_relationships(rng, schema, most):
    rows = {random_relationship(rng, schema) for _ in range(rng.randint(most // 3, most))}
    rows = sorted(rows)
    rng.shuffle(rows)
    return rows


def random_updates(rng, schema, present):
    """One to seven updates that can be written to relationships."""
    chosen = {random_relationship(rng, schema) for _ in range(rng.randint(1, 5))}
    chosen |= set(rng.sample(sorted(present), min(2, len(present))))
    return [("delete" if row in present else rng.choice(["create", "touch"]), *row) for row in sorted(chosen)]
