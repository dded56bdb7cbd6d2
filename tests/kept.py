"""Which plans keep which rules of a problem, gone through without the program: bases, conflicts and removals."""

from itertools import combinations

from tests.problems import TOLD, is_kept_by


def all_collections(problem):
    """All collections of the problem, those of fewer rules first, then in the order of tuples."""
    indexes = range(len(problem[1]))
    return [collection for many in range(len(indexes) + 1) for collection in combinations(indexes, many)]


def collections_of(problem):
    """Some collections of the problem, the empty one and that of all rules among them."""
    found = all_collections(problem)
    return found if len(found) < 40 else [*found[::len(found) // 30], found[-1]]


def left_out(collection, index):
    """The collection without the index."""
    return tuple(other for other in collection if other != index)


class Kept:
    """Which plans keep which rules of a problem: for each rule the set of the indexes of these plans."""

    def __init__(self, problem):
        self.collections = all_collections(problem)
        self.indexes = self.collections[-1]
        self.all = frozenset(range(len(TOLD[problem[0]])))
        self.sets = [frozenset(at for at, (_, told) in enumerate(TOLD[problem[0]])
                               if is_kept_by((problem[0], (rule,)), told)) for rule in problem[1]]

    def by(self, collection):
        """The plans that keep all rules of the collection."""
        found = self.all
        for index in collection:
            found = found & self.sets[index]
        return found

    def drops(self, collection, index):
        """Whether the rule can be dropped from the collection."""
        rest = self.by(other for other in collection if other != index)
        return rest <= self.sets[index]

    def bases(self):
        """The list of all bases, those with fewer rules first."""
        whole = self.by(self.indexes)
        return [collection for collection in self.collections
                if self.by(collection) == whole and not any(self.drops(collection, index) for index in collection)]

    def told(self):
        """The told base."""
        left = list(self.indexes)
        for index in self.indexes[::-1]:
            if self.drops(left, index):
                left.remove(index)
        return tuple(left)

    def is_conflict(self, collection):
        """Whether no plan keeps the collection, and some plan keeps it with any one rule less."""
        return not self.by(collection) and all(self.by(left_out(collection, index)) for index in collection)

    def conflicts(self):
        """The list of all conflicts, those with fewer rules first."""
        return [collection for collection in self.collections if self.is_conflict(collection)]

    def told_conflict(self):
        """The told conflict, or None if some plan keeps all rules."""
        if self.by(self.indexes):
            return None
        left = self.indexes
        for index in self.indexes[::-1]:
            if not self.by(left_out(left, index)):
                left = left_out(left, index)
        return left

    def is_removal(self, collection):
        """Whether some plan keeps all other rules, and none keeps any one rule of the collection besides."""
        rest = self.by(index for index in self.indexes if index not in collection)
        return bool(rest) and not any(rest & self.sets[index] for index in collection)

    def removals(self):
        """The list of all removals, those with fewer rules first."""
        return [collection for collection in self.collections if self.is_removal(collection)]
