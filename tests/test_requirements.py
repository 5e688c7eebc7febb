"""The document's requirements, asked of many sessions that are made up by rule."""

import unittest

from tests.calls import (CLOSE_GROUP, OPEN_GROUP, REDO, UNDO, change, earlier, go_to, insert, later, run, run_after,
                         start, wait)

SESSIONS = 300


class Dice:
    """Numbers that look thrown but are the same each time."""

    def __init__(self, seed):
        self.seed = seed * 7919 + 17

    def throw(self, sides):
        self.seed = (self.seed * 1103515245 + 12345) % 2147483648
        return self.seed // 65536 % sides


def made_up_change(dice):
    kind = dice.throw(6)
    if kind == 0:
        return change(dice.throw(9), dice.throw(9), [dice.throw(257) for _ in range(dice.throw(9))])
    if kind == 1:
        return change(0, 0, [1] * (dice.throw(4) * 80))
    return change(dice.throw(3), 0, [dice.throw(256) for _ in range(1 + dice.throw(4))])


def made_up_call(dice):
    kind = dice.throw(16)
    if kind < 5:
        return made_up_change(dice)
    if kind < 7:
        return UNDO
    if kind < 9:
        return REDO
    if kind == 9:
        return OPEN_GROUP
    if kind < 12:
        return CLOSE_GROUP
    if kind == 12:
        return go_to(dice.throw(20))
    if kind == 13:
        return earlier(dice.throw(5))
    if kind == 14:
        return later(dice.throw(5))
    return wait(dice.throw(500000))


def made_up_sessions(length):
    for seed in range(SESSIONS):
        dice = Dice(seed)
        beginning = [start([dice.throw(256) for _ in range(dice.throw(5))])]
        yield beginning + [made_up_call(dice) for _ in range(length - 1)]


class Follower:
    """Follows a session by its calls; knows of it what the document says, but not the bytes of its texts."""

    def __init__(self):
        self.begin(0)

    def begin(self, length):
        self.parents = {}
        self.lengths = {0: length}
        self.visited = {}
        self.current = 0
        self.clock = 0
        self.group = None

    def follow(self, call):
        """Takes in one call and says what its answer ought to be."""
        name = ("start", "wait", "change", "open_group", "close_group", "undo", "redo", "go_to", "earlier",
                "later")[call[0]]
        if call[0] >= 5 and self.group is not None:
            return [-9]
        return getattr(self, name)(*call[1:])

    def create(self, length):
        number = len(self.lengths)
        self.parents[number] = self.current
        self.visited[self.current] = number
        self.lengths[number] = length
        self.current = number

    def way(self, state):
        way = [state]
        while way[0] != 0:
            way.insert(0, self.parents[way[0]])
        return way

    def distances(self, state):
        """How far all states are, found by walking from neighbour to neighbour."""
        near = {state: (0, 0)}
        edge = [state]
        while edge:
            reached = edge.pop(0)
            up, down = near[reached]
            steps = [(child, (up, down + 1)) for child in self.parents if self.parents[child] == reached]
            if reached != 0:
                steps.append((self.parents[reached], (up + 1, down)))
            for neighbour, way in steps:
                if neighbour not in near:
                    near[neighbour] = way
                    edge.append(neighbour)
        return near

    def move(self, state):
        up, down = self.distances(self.current)[state]
        way = self.way(state)
        self.visited.update(zip(way, way[1:]))
        self.current = state
        return [up, down, self.lengths[state]]

    def start(self, count, *text):
        if count > 300 or max(text, default=0) > 255:
            return [-1]
        self.begin(count)
        return [count]

    def wait(self, ticks):
        if self.clock + ticks > 1000000:
            return [-1]
        self.clock += ticks
        return [self.clock]

    def change(self, position, removed, count, *inserted):
        old = self.lengths[self.current] if not self.group else self.group[-1]
        new = old - removed + count
        if position + removed > old or max(inserted, default=0) > 255:
            return [-1]
        if new > 300:
            return [-6]
        if self.group is not None:
            self.group.append(new)
            return [len(self.lengths), new]
        self.create(new)
        return [self.current, new]

    def open_group(self):
        if self.group is not None:
            return [-9]
        self.group = []
        return [len(self.lengths)]

    def close_group(self):
        if self.group is None:
            return [-9]
        if self.group:
            self.create(self.group[-1])
        self.group = None
        return [self.current]

    def undo(self):
        if self.current == 0:
            return [-7]
        self.current = self.parents[self.current]
        return [self.current, self.lengths[self.current]]

    def redo(self):
        if self.current not in self.visited:
            return [-7]
        self.current = self.visited[self.current]
        return [self.current, self.lengths[self.current]]

    def go_to(self, state):
        if state not in self.lengths:
            return [-2]
        return self.move(state)

    def earlier(self, n):
        if n == 0:
            return [-1]
        if n > self.current:
            return [-7]
        return [self.current - n] + self.move(self.current - n)

    def later(self, n):
        if n == 0:
            return [-1]
        if self.current + n not in self.lengths:
            return [-7]
        return [self.current + n] + self.move(self.current + n)


def followed(calls):
    """A follower that has followed these calls to their end."""
    follower = Follower()
    for call in calls:
        follower.follow(call)
    return follower


class MadeUpSessions(unittest.TestCase):
    def test_every_answer(self):
        for calls in made_up_sessions(80):
            follower = Follower()
            for place, (call, answer) in enumerate(zip(calls, run(*calls))):
                self.assertEqual(answer, follower.follow(call), (place, calls))

    def test_1_lengths_of_states_stay(self):
        for calls in made_up_sessions(40):
            before = calls + [CLOSE_GROUP]
            lengths = followed(before).lengths
            for answer, state in zip(run_after(before, *[go_to(state) for state in lengths]), lengths):
                self.assertEqual(answer[2], lengths[state])

    def test_2_parents_have_lesser_numbers_up_to_the_one_root(self):
        for calls in made_up_sessions(30):
            before = calls + [CLOSE_GROUP]
            for state in followed(before).lengths:
                numbers = [state]
                for answer in run_after(before + [go_to(state)], *[UNDO] * 40):
                    if answer != [-7]:
                        numbers.append(answer[0])
                self.assertEqual(numbers, sorted(set(numbers), reverse=True))
                self.assertEqual(numbers[-1], 0)

    def test_2_the_current_state_always_exists(self):
        for calls in made_up_sessions(79):
            before = calls[:60] + [CLOSE_GROUP]
            state = run_after(before, OPEN_GROUP, CLOSE_GROUP)[1][0]
            self.assertEqual(run_after(before, go_to(state))[0][:2], [0, 0])

    def test_3_undo_and_redo_around_a_change(self):
        for calls in made_up_sessions(70):
            before = calls + [CLOSE_GROUP, OPEN_GROUP, CLOSE_GROUP]
            state = run(*before)[-1][0]
            for made in (change(0, 0), change(0, 0, [5]), change(0, 1)):
                here, done, undone, redone = run_after(before, go_to(state), made, UNDO, REDO)
                if done[0] >= 0:
                    self.assertEqual(undone, [state, here[2]])
                    self.assertEqual(redone, done)

    def test_4_go_to_takes_a_shortest_connection(self):
        for calls in made_up_sessions(40):
            before = calls + [CLOSE_GROUP]
            follower = followed(before)
            shortest = follower.distances(follower.current)
            for state in follower.lengths:
                self.assertEqual(tuple(run_after(before, go_to(state))[0][:2]), shortest[state])

    def test_5_later_leads_back_from_earlier(self):
        for calls in made_up_sessions(60):
            before = calls + [CLOSE_GROUP]
            state = followed(before).current
            for n in range(1, state + 1):
                there, back = run_after(before, earlier(n), later(n))
                self.assertGreaterEqual(there[0], 0)
                self.assertEqual(back[0], state)
                self.assertEqual(back[1:3], [there[2], there[1]])

    def test_10_one_undo_for_a_group(self):
        for calls in made_up_sessions(60):
            before = calls + [CLOSE_GROUP, OPEN_GROUP, CLOSE_GROUP]
            state = run(*before)[-1][0]
            for changes in ([change(0, 0)], [change(0, 0)] * 4, [change(0, 0), insert(1), change(0, 1)]):
                here, _, *_, closed, undone, redone = run_after(
                    before, go_to(state), OPEN_GROUP, *changes, CLOSE_GROUP, UNDO, REDO)
                self.assertEqual(undone, [state, here[2]])
                self.assertEqual(redone[0], closed[0])
                self.assertGreater(closed[0], state)


if __name__ == "__main__":
    unittest.main()
