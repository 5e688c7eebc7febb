"""The tree of states, the current state in it, and the ways between states."""

from undobranches.refusals import NoSuchState


class State:
    """One state; its parent, its children and the child visited last are given by their numbers.

    The root has no parent and no changes. The children stand in increasing order, as they are created in it.
    """

    def __init__(self, parent, time, changes, text):
        self.parent = parent
        self.time = time
        self.changes = changes
        self.text = text
        self.kept = 0
        self.children = []
        self.visited = None

    def preferred_child(self):
        """The number of the child that redo leads to; the state has at least one."""
        if self.visited in self.children:
            return self.visited
        return max(self.children)


class Tree:
    """All states by their numbers, in increasing order, and the number of the current one.

    Texts are never changed in place, so that states may share them with others.
    """

    def __init__(self, text):
        self.states = {0: State(None, 0, [], text)}
        self.current = 0
        # Counted apart from the states, since no number is ever given twice.
        self.next_number = 1

    def find_state(self, number):
        """The state with this number, if there is one."""
        if number not in self.states:
            raise NoSuchState()
        return self.states[number]

    def current_state(self):
        """The current state itself."""
        return self.states[self.current]

    def root(self):
        """The number of the root; it is the least, as each parent's number is less than those of its children."""
        return min(self.states)

    def leaves(self):
        """The numbers of all states without children, in increasing order."""
        return [number for number, state in self.states.items() if not state.children]

    def add_state(self, time, changes, text):
        """Creates a child of the current state, makes it the current state and answers its number."""
        number = self.next_number
        parent = self.current_state()
        self.states[number] = State(self.current, time, changes, text)
        parent.children.append(number)
        parent.visited = number
        self.current = number
        self.next_number = number + 1
        return number

    def way_to(self, number):
        """The numbers of the states from the root to a state, both included."""
        way = [number]
        parent = self.states[number].parent
        while parent is not None:
            way.append(parent)
            parent = self.states[parent].parent
        way.reverse()
        return way

    def path(self, from_state, to_state):
        """The path between two states: those left on the way up, the one it turns at, those met on the way down."""
        old_way = self.way_to(from_state)
        new_way = self.way_to(to_state)
        shorter = min(len(old_way), len(new_way))
        shared = 0
        while shared < shorter and old_way[shared] == new_way[shared]:
            shared = shared + 1
        way_up = old_way[shared:]
        way_up.reverse()
        return way_up, old_way[shared - 1], new_way[shared:]

    def visit(self, number):
        """Makes a state the current one and the way to it the one that redo follows."""
        way = self.way_to(number)
        for number_above, number_below in zip(way, way[1:]):
            state = self.states[number_above]
            state.visited = number_below
        self.current = number

    def can_go(self, number):
        """Whether a state is neither current nor kept, so that it may be deleted."""
        return number != self.current and self.states[number].kept == 0

    def first_leaf_to_go(self):
        """The least number of a leaf that may be deleted, or None."""
        # The root is never among them: as a leaf it is the only state, and so the current one.
        return min([number for number in self.leaves() if self.can_go(number)], default=None)

    def root_can_go(self):
        """Whether the root may be deleted and its child take its place."""
        root = self.root()
        return self.can_go(root) and len(self.states[root].children) == 1

    def delete_leaf(self, number):
        """Takes a leaf that isn't the root out of the tree."""
        leaf = self.states.pop(number)
        parent = self.states[leaf.parent]
        parent.children.remove(number)

    def delete_root(self):
        """Takes the root out of the tree; its only child becomes the root. Answers the number of the old one."""
        number = self.root()
        old_root = self.states.pop(number)
        new_root = self.states[old_root.children[0]]
        new_root.parent = None
        new_root.changes = []
        return number

    def forget(self, limit):
        """Deletes states until at most so many are left, as far as possible; answers which, in this order."""
        deleted = []
        leaf = self.first_leaf_to_go()
        while len(self.states) > limit and leaf is not None:
            self.delete_leaf(leaf)
            deleted.append(leaf)
            leaf = self.first_leaf_to_go()
        while len(self.states) > limit and self.root_can_go():
            deleted.append(self.delete_root())
        return deleted
