"""Models: sketches kept under names, changed by steps that can be undone (DOC.md [33])."""

from heapq import heappop, heappush

from planehall.errors import ComesRound, InUse, NameTaken, NothingToRedo, NothingToUndo, TooDeep, TooMany, UnknownName
from planehall.figures import MOST_DEEP, excess_of
from planehall.filling import filled, filled_depth, names_of
from planehall.sketches import check_book, check_name, check_sketch


class Entry:
    """An own sketch, the tuple of its names, how deep it is with these filled, and the whole figure that it is so.

    An entry is never changed: steps exchange entries for new ones.
    """

    def __init__(self, own, parts, deep, whole):
        self.own = own
        self.parts = parts
        self.deep = deep
        self.whole = whole


class Model:
    """Sketches under names."""

    def __init__(self):
        # Dicts of the entries by their names: now, before each step not undone, after each one undone.
        self.entries = {}
        self.before = []
        self.after = []

    def put(self, name, sketch):
        """Keeps a sketch under a name, instead of the one kept there, if there is one."""
        check_name(name)
        check_sketch(sketch)
        parts = names_of(sketch)
        for part in parts:
            if part != name and part not in self.entries:
                raise UnknownName(part)
        if name in reached(self.entries, parts):
            raise ComesRound(name)
        self.step(with_sketch(self.entries, name, sketch))

    def rename(self, name, other_name):
        """Keeps the sketch of a name under another name, in all sketches, too."""
        check_name(name)
        check_name(other_name)
        self.check_known(name)
        if other_name in self.entries:
            raise NameTaken(other_name)
        table = {name: ("name", other_name)}
        found = {}
        for kept, entry in self.entries.items():
            sketch = filled(entry.own, table)
            found[other_name if kept == name else kept] = Entry(sketch, names_of(sketch), entry.deep, entry.whole)
        self.step(found)

    def strike(self, name):
        """Keeps no sketch under a name any more."""
        check_name(name)
        self.check_known(name)
        users = sorted([other for other, entry in self.entries.items() if name in entry.parts])
        if users:
            raise InUse(users[0])
        self.step({other: entry for other, entry in self.entries.items() if other != name})

    def undo(self):
        """Leads back to what was ahead of the last step not undone."""
        if not self.before:
            raise NothingToUndo()
        self.after.append(self.entries)
        self.entries = self.before.pop()

    def redo(self):
        """Undoes the last undoing."""
        if not self.after:
            raise NothingToRedo()
        self.before.append(self.entries)
        self.entries = self.after.pop()

    def names(self):
        """The ascending tuple of all names."""
        return tuple(sorted(self.entries))

    def sketch(self, name):
        """The sketch of a name."""
        return self.entry_of(name).own

    def figure(self, name):
        """The sketch of a name, filled."""
        return self.entry_of(name).whole

    def uses(self, name):
        """The ascending tuple of all names that a name uses."""
        return tuple(sorted(reached(self.entries, self.entry_of(name).parts)))

    def used_by(self, name):
        """The ascending tuple of all names that use a name."""
        check_name(name)
        self.check_known(name)
        return tuple(sorted(users_of(self.entries, name)))

    def scene(self, name):
        """The definitions of all names that a name uses, in the order of the book, and its sketch."""
        entry = self.entry_of(name)
        used = reached(self.entries, entry.parts)
        return (tuple([row for row in self.book() if row[0] in used]), entry.own)

    def book(self):
        """The definitions of all names, each behind those that it uses, the least names first."""
        return tuple([(name, self.entries[name].own) for name in in_order(self.entries)])

    def steps(self):
        """The pair of how many steps can be undone and redone."""
        return (len(self.before), len(self.after))

    def entry_of(self, name):
        check_name(name)
        self.check_known(name)
        return self.entries[name]

    def check_known(self, name):
        if name not in self.entries:
            raise UnknownName(name)

    def step(self, entries):
        self.before.append(self.entries)
        self.after = []
        self.entries = entries


def model_of(book):
    """A new model with the definitions told, and nothing to undo."""
    check_book(book)
    model = Model()
    for name, sketch in book:
        model.entries[name] = entry_for(model.entries, sketch)
    return model


def entry_for(entries, sketch):
    """The entry of a sketch all names of which have entries."""
    parts = names_of(sketch)
    deep = filled_depth(sketch, {part: entries[part].deep for part in parts})
    return Entry(sketch, parts, deep, filled(sketch, {part: entries[part].whole for part in parts}))


def with_sketch(entries, name, sketch):
    """The dict of the entries with a sketch under a name; TooDeep or TooMany if something gets so."""
    found = {other: entry for other, entry in entries.items()}
    found[name] = Entry(sketch, names_of(sketch), 0, None)
    touched = [name] + users_of(found, name)
    for other in touched:
        found[other] = entry_for(found, found[other].own)
    touched = sorted(touched)
    for other in touched:
        if found[other].deep > MOST_DEEP:
            raise TooDeep(other)
    for other in touched:
        many = excess_of(found[other].whole)
        if many is not None:
            raise TooMany(many)
    return found


def reached(entries, names):
    """The dict of all names to which one comes from some names, these included, by way of sketches."""
    found, left = {}, list(names)
    while left:
        name = left.pop()
        if name not in found:
            found[name] = True
            if name in entries:
                left.extend(entries[name].parts)
    return found


def users_of(entries, name):
    """The list of all names that use a name, each behind those that it uses."""
    users = {}
    for other in in_order(entries):
        if [part for part in entries[other].parts if part == name or part in users]:
            users[other] = True
    return list(users)


def in_order(entries):
    """The list of all names, at each place the least one of those left whose sketch has none that is left."""
    waiting = {name: len(entry.parts) for name, entry in entries.items()}
    users = {name: [] for name in entries}
    for name, entry in entries.items():
        for part in entry.parts:
            users[part].append(name)
    free = sorted([name for name, many in waiting.items() if many == 0])
    order = []
    while free:
        name = heappop(free)
        order.append(name)
        for user in users[name]:
            waiting[user] -= 1
            if waiting[user] == 0:
                heappush(free, user)
    return order
