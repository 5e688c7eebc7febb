"""The tree of states, the current state in it, and the ways between states."""

from undobranches.refusals import NoSuchState


class State:
    """One state; its parent, its children and the child visited last are given by their numbers."""

    def __init__(self, parent, time, changes, text):
        self.parent = parent
        self.time = time
        self.changes = changes
        self.text = text
        self.children = []
        self.visited = None

    def preferred_child(self):
        """The number of the child that redo leads to; the state has at least one."""
        if self.visited in self.children:
            return self.visited
        return max(self.children)


class Tree:
    """All states by their numbers, and the number of the current one.

    Texts are never changed in place, so that states may share them with others.
    """

    def __init__(self, text):
        self.states = {0: State(None, 0, [], text)}
        self.current = 0
        # Counted apart from the states, since no number is ever given twice.
        self.next_number = 1

    def find_state(self, number):
        """The state with this number, if there is one."""
        if number not in self.states:
            raise NoSuchState()
        return self.states[number]

    def current_state(self):
        """The current state itself."""
        return self.states[self.current]

    def add_state(self, time, changes, text):
        """Creates a child of the current state, makes it the current state and answers its number."""
        number = self.next_number
        parent = self.current_state()
        self.states[number] = State(self.current, time, changes, text)
        parent.children.append(number)
        parent.visited = number
        self.current = number
        self.next_number = number + 1
        return number

    def way_to(self, number):
        """The numbers of the states from the root to a state, both included."""
        way = [number]
        parent = self.states[number].parent
        while parent is not None:
            way.append(parent)
            parent = self.states[parent].parent
        way.reverse()
        return way

    def steps_to(self, number):
        """How many steps up and how many down the path from the current state to another one has."""
        old_way = self.way_to(self.current)
        new_way = self.way_to(number)
        shorter = min(len(old_way), len(new_way))
        shared = 0
        while shared < shorter and old_way[shared] == new_way[shared]:
            shared = shared + 1
        return len(old_way) - shared, len(new_way) - shared

    def visit(self, number):
        """Makes a state the current one and the way to it the one that redo follows."""
        way = self.way_to(number)
        for number_above, number_below in zip(way, way[1:]):
            state = self.states[number_above]
            state.visited = number_below
        self.current = number
