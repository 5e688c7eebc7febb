"""A session: the operations on one text, its tree of states and its clock.

Each operation answers a list of its results, or raises a refusal before it has changed anything.
"""

from undobranches.changes import origins_after, region_start_after, text_after
from undobranches.refusals import NotOnThePath, NowhereToGo, OutOfRange, RevertedTextTooLong, SeveralChanges
from undobranches.refusals import TextTooLong, WrongForGroup
from undobranches.tree import Tree

GREATEST_BYTE = 255
LONGEST_TEXT = 300
LATEST_CLOCK = 1000000


def are_bytes(numbers):
    """Whether all numbers can stand in a text."""
    return max(numbers, default=0) <= GREATEST_BYTE


def counted(numbers):
    """The numbers with their count ahead of them."""
    return [len(numbers)] + numbers


class Group:
    """The changes of an open group, and the text that they have led to so far."""

    def __init__(self, text):
        self.changes = []
        self.text = text

    def take(self, change, text):
        """Takes one more change and the text that results from it."""
        self.changes.append(change)
        self.text = text


class Session:
    """One text with its history; group is None while no group is open."""

    def __init__(self):
        self.tree = Tree([])
        self.clock = 0
        self.group = None

    def refuse_open_group(self):
        """Refuses what can't be done while a group is open."""
        if self.group is not None:
            raise WrongForGroup()

    def current_text(self):
        """The text of the current state with the changes of the open group, if there is one."""
        if self.group is not None:
            return self.group.text
        return self.tree.current_state().text

    def where(self):
        """What undo and redo answer: the current state and the length of its text."""
        return [self.tree.current, len(self.current_text())]

    def move(self, number):
        """Visits a state and answers the steps up, the steps down and the length of its text."""
        way_up, turn, way_down = self.tree.path(self.tree.current, number)
        self.tree.visit(number)
        return [len(way_up), len(way_down), len(self.current_text())]

    def move_in_order(self, numbers, n):
        """Moves to the n-th of the given states, counted from 1."""
        if n == 0:
            raise OutOfRange()
        if n > len(numbers):
            raise NowhereToGo()
        number = numbers[n - 1]
        return [number] + self.move(number)

    def start(self, text):
        """Begins anew with this text as state 0; answers its length."""
        if len(text) > LONGEST_TEXT or not are_bytes(text):
            raise OutOfRange()
        self.tree = Tree(text)
        self.clock = 0
        self.group = None
        return [len(text)]

    def wait(self, ticks):
        """Advances the clock and answers it."""
        if self.clock + ticks > LATEST_CLOCK:
            raise OutOfRange()
        self.clock = self.clock + ticks
        return [self.clock]

    def change(self, position, removed, inserted):
        """Changes the current text; answers the state that this creates or will be part of, and the length."""
        old = self.current_text()
        if position + removed > len(old) or not are_bytes(inserted):
            raise OutOfRange()
        if len(old) - removed + len(inserted) > LONGEST_TEXT:
            raise TextTooLong()
        made = (position, removed, inserted)
        text = text_after(old, made)
        if self.group is not None:
            self.group.take(made, text)
            return [self.tree.next_number, len(text)]
        return [self.tree.add_state(self.clock, [made], text), len(text)]

    def open_group(self):
        """Opens a group; answers the number that its state would have."""
        self.refuse_open_group()
        self.group = Group(self.current_text())
        return [self.tree.next_number]

    def close_group(self):
        """Closes the group; answers the state that is created, or the current one if the group has no changes."""
        if self.group is None:
            raise WrongForGroup()
        group = self.group
        self.group = None
        if group.changes:
            self.tree.add_state(self.clock, group.changes, group.text)
        return [self.tree.current]

    def undo(self):
        """Goes to the parent of the current state."""
        self.refuse_open_group()
        parent = self.tree.current_state().parent
        if parent is None:
            raise NowhereToGo()
        self.tree.current = parent
        return self.where()

    def redo(self):
        """Goes to the preferred child of the current state."""
        self.refuse_open_group()
        state = self.tree.current_state()
        if not state.children:
            raise NowhereToGo()
        state.visited = state.preferred_child()
        self.tree.current = state.visited
        return self.where()

    def go_to(self, number):
        """Goes to any state."""
        self.refuse_open_group()
        self.tree.find_state(number)
        return self.move(number)

    def earlier(self, n):
        """Goes to the n-th of the states before the current one, counted back from it in the order of numbers."""
        self.refuse_open_group()
        current = self.tree.current
        before = [number for number in self.tree.states if number < current]
        return self.move_in_order(sorted(before, reverse=True), n)

    def later(self, n):
        """Goes to the n-th of the states behind the current one, counted on from it in the order of numbers."""
        self.refuse_open_group()
        current = self.tree.current
        behind = [number for number in self.tree.states if number > current]
        return self.move_in_order(sorted(behind), n)

    def ago(self, ticks):
        """Goes to the last of the states that were there so many ticks ago."""
        self.refuse_open_group()
        there = [number for number, state in self.tree.states.items() if state.time + ticks <= self.clock]
        return self.move_in_order(sorted(there, reverse=True), 1)

    def get_text(self):
        """Answers the current text."""
        return counted(self.current_text())

    def state_info(self, number):
        """Answers what is known of a state."""
        state = self.tree.find_state(number)
        parent = 0
        if state.parent is not None:
            parent = state.parent + 1
        depth = len(self.tree.way_to(number)) - 1
        return [parent, state.time, depth, state.kept, len(state.changes)] + counted(state.children)

    def leaves(self):
        """Answers the states without children."""
        return counted(self.tree.leaves())

    def path(self, from_state, to_state):
        """Answers the states on the path between two states, both included."""
        self.tree.find_state(from_state)
        self.tree.find_state(to_state)
        way_up, turn, way_down = self.tree.path(from_state, to_state)
        return counted(way_up + [turn] + way_down)

    def origins(self):
        """Answers for each byte of the text the state that it comes from."""
        self.refuse_open_group()
        way = self.tree.way_to(self.tree.current)
        found = [way[0]] * len(self.tree.states[way[0]].text)
        for number in way:
            for made in self.tree.states[number].changes:
                found = origins_after(found, made, number)
        return counted(found)

    def region_start(self, number):
        """Where the region of a state with one change starts in the current text; the state is on the way there."""
        way = self.tree.way_to(self.tree.current)
        position, removed, inserted = self.tree.states[number].changes[0]
        start = position
        for number_behind in way[way.index(number) + 1:]:
            for made in self.tree.states[number_behind].changes:
                start = region_start_after(start, len(inserted), made)
        return start

    def revert(self, number):
        """Takes the one change of an earlier state back; answers the state that this creates and the length."""
        self.refuse_open_group()
        state = self.tree.find_state(number)
        if state.parent is None or number not in self.tree.way_to(self.tree.current):
            raise NotOnThePath()
        if len(state.changes) > 1:
            raise SeveralChanges()
        position, removed, inserted = state.changes[0]
        restored = self.tree.states[state.parent].text[position:position + removed]
        reverting = (self.region_start(number), len(inserted), restored)
        text = text_after(self.current_text(), reverting)
        if len(text) > LONGEST_TEXT:
            raise RevertedTextTooLong()
        return [self.tree.add_state(self.clock, [reverting], text), len(text)]

    def set_kept(self, number, kept):
        """Has a state kept from now on, or not."""
        state = self.tree.find_state(number)
        state.kept = kept
        return [0]

    def forget(self, limit):
        """Deletes old states until at most so many are left; answers which."""
        self.refuse_open_group()
        if limit == 0:
            raise OutOfRange()
        return counted(self.tree.forget(limit))

    def text_of(self, number):
        """Answers the text of any state."""
        return counted(self.tree.find_state(number).text)
