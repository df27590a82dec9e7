"""A tree as it stands: its parts, what they hang on, their changes, and the lean at first."""


class Tree:
    """What the calls of one list keep from one call to the next."""

    def __init__(self):
        self.begun = False
        self.first_lean = 0
        self.hung_on = []
        self.changes = []

    def begin_anew(self, first_lean):
        self.begun = True
        self.first_lean = first_lean
        # The trunk hangs on no part and never comes off; its places keep the lists' indexes the parts' numbers.
        self.hung_on = [-1]
        self.changes = [0]

    def twin(self):
        """Another tree like this one, which may be changed without this one."""
        other = Tree()
        other.begun = self.begun
        other.first_lean = self.first_lean
        other.hung_on = list(self.hung_on)
        other.changes = list(self.changes)
        return other

    def hang(self, part, change):
        self.hung_on.append(part)
        self.changes.append(change)

    def drop_last(self):
        self.hung_on.pop()
        self.changes.pop()

    def part_count(self):
        return len(self.hung_on)

    def loose_parts(self):
        """All parts but the trunk, rising."""
        return list(range(1, len(self.hung_on)))

    def boughs_on(self, part):
        """The parts that hang on this one itself, rising."""
        return [bough for bough in self.loose_parts() if self.hung_on[bough] == part]
