"""Albums: heaps kept under names, found again however they were moved."""

from laidover.errors import BadName, NoThing
from laidover.forms import form, shape
from laidover.heaps import heap, moved
from laidover.whole import laying


class Album:
    """Heaps under names; each put, drop and move may be undone."""

    def __init__(self):
        # From each name to its heap and that one's form, which no motion changes.
        self.kept = {}
        # For each deed its name, and what was kept under it ahead, or None.
        self.deeds = []

    def __len__(self):
        return len(self.kept)

    def put(self, name, points):
        """Keep a heap under a name; told are the names of all others alike."""
        if not isinstance(name, str) or name == "":
            raise BadName("a name is a text that is not empty")
        record = (heap(points), form(points))
        self.note(name)
        self.kept[name] = record
        return [other for other in self.with_form(record[1]) if other != name]

    def drop(self, name):
        """Keep the heap of a name no longer."""
        self.need_names(name)
        self.note(name)
        del self.kept[name]

    def move(self, name, motion):
        """Move the heap of a name."""
        self.need_names(name)
        points, its_form = self.kept[name]
        record = (moved(motion, points), its_form)
        self.note(name)
        self.kept[name] = record

    def shown(self, name):
        """The heap of a name, in order."""
        self.need_names(name)
        return self.kept[name][0]

    def find(self, points):
        """The names of all heaps alike to this one, rising."""
        return self.with_form(form(points))

    def find_shape(self, points):
        """The names of all heaps similar to this one, rising."""
        wanted = shape(points)
        return [name for name in self.names() if self.kept[name][1][1] == wanted]

    def way(self, one, other):
        """The first motion that leads the heap of one name to that of another."""
        self.need_names(one, other)
        ways = laying(self.kept[one][0], self.kept[other][0])
        if not ways:
            raise NoThing("these heaps are not alike")
        return ways[0]

    def groups(self):
        """The names of heaps alike, together, rising; by their first ones."""
        found = {}
        for name in self.names():
            found.setdefault(self.kept[name][1], []).append(name)
        return list(found.values())

    def names(self):
        """All names, rising."""
        return sorted(self.kept)

    def undo(self):
        """Undo the last deed that is not undone yet."""
        if not self.deeds:
            raise NoThing("there is nothing to undo")
        name, before = self.deeds.pop()
        if before is None:
            del self.kept[name]
        else:
            self.kept[name] = before

    def need_names(self, *things):
        """Refuse things of which one is no name of a heap here."""
        for thing in things:
            if not isinstance(thing, str) or thing not in self.kept:
                raise BadName("no heap has this name")

    def with_form(self, wanted):
        """The names of all heaps with this form, rising."""
        return [name for name in self.names() if self.kept[name][1] == wanted]

    def note(self, name):
        """Note what is kept under a name, ahead of a deed."""
        self.deeds.append((name, self.kept.get(name)))
