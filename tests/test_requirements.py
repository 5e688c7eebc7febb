"""The document's requirements, asked of many sessions that are made up by rule."""

import unittest

from tests.calls import (CLOSE_GROUP, GET_TEXT, LEAVES, OPEN_GROUP, ORIGINS, REDO, UNDO, ago, change, earlier, forget,
                         go_to, insert, later, path, revert, run, run_after, set_kept, start, state_info, text_of, wait)

SESSIONS = 300
GET_TEXT_CALL, STATE_INFO_CALL, LEAVES_CALL, PATH_CALL, ORIGINS_CALL, TEXT_OF_CALL = 11, 12, 13, 14, 15, 19
NAMES = ("start", "wait", "change", "open_group", "close_group", "undo", "redo", "go_to", "earlier", "later", "ago",
         "get_text", "state_info", "leaves", "path", "origins", "revert", "set_kept", "forget", "text_of")
NOT_IN_A_GROUP = ("undo", "redo", "go_to", "earlier", "later", "ago", "origins", "revert", "forget")


class Dice:
    """Numbers that look thrown but are the same each time."""

    def __init__(self, seed):
        self.seed = seed * 7919 + 17

    def throw(self, sides):
        self.seed = (self.seed * 1103515245 + 12345) % 2147483648
        return self.seed // 65536 % sides


def made_up_change(dice, length):
    kind = dice.throw(8)
    if kind < 2:
        return change(dice.throw(9), dice.throw(6), [dice.throw(257) for _ in range(dice.throw(9))])
    if kind == 2:
        return change(0, 0, [1] * (dice.throw(4) * 80))
    if kind == 3:
        return change(dice.throw(length + 2), 0, [dice.throw(256)])
    if kind == 4:
        return change(dice.throw(6), (1, 2, 80)[dice.throw(3)])
    return change(dice.throw(3), 0, [dice.throw(256) for _ in range(1 + dice.throw(4))])


def made_up_move(dice, state):
    kind = dice.throw(12)
    if kind < 4:
        return UNDO
    if kind < 7:
        return REDO
    if kind < 9:
        return go_to(state)
    if kind == 9:
        return earlier(dice.throw(6))
    if kind == 10:
        return later(dice.throw(4))
    return ago(dice.throw(60))


def made_up_question(dice, state, other_state):
    kind = dice.throw(6)
    if kind == 0:
        return GET_TEXT
    if kind == 1:
        return state_info(state)
    if kind == 2:
        return LEAVES
    if kind == 3:
        return path(state, other_state)
    if kind == 4:
        return ORIGINS
    return text_of(state)


def made_up_state(dice, follower):
    """Mostly one that exists."""
    states = list(follower.parents)
    if dice.throw(8) == 0:
        return dice.throw(40)
    return states[dice.throw(len(states))]


def made_up_call(dice, follower):
    kind = dice.throw(28)
    state = made_up_state(dice, follower)
    if kind < 8:
        return made_up_change(dice, follower.get_text()[0])
    if kind < 15:
        return made_up_move(dice, state)
    if kind < 18:
        return made_up_question(dice, state, made_up_state(dice, follower))
    if kind == 18:
        return OPEN_GROUP
    if kind < 22:
        return CLOSE_GROUP
    if kind == 22:
        return wait(dice.throw(30) ** (1 + dice.throw(4)))
    if kind < 26:
        return revert(state)
    if kind == 26:
        return set_kept(state, dice.throw(2))
    most = len(follower.parents) + 2
    return forget(max(dice.throw(most), dice.throw(most)))


def made_up_sessions(length, count=SESSIONS):
    for seed in range(count):
        dice = Dice(seed)
        follower = Follower()
        calls = [start([dice.throw(256) for _ in range(dice.throw(9))])]
        while len(calls) < length:
            follower.follow(calls[-1])
            calls.append(made_up_call(dice, follower))
        yield calls


def counted(numbers):
    return [len(numbers), *numbers]


def put_in(whole, position, removed, inserted):
    return whole[:position] + list(inserted) + whole[position + removed:]


class Follower:
    """Follows a session by its calls, and says in the document's words what is to be answered.

    The cells of a text are its bytes, each with the state that inserted it.
    """

    def __init__(self):
        self.begin([])

    def begin(self, text):
        self.parents = {0: None}
        self.times = {0: 0}
        self.changes = {0: []}
        self.cells = {0: [(byte, 0) for byte in text]}
        self.visited = {}
        self.kept = []
        self.current = 0
        self.next = 1
        self.clock = 0
        self.group = None
        self.group_cells = None

    def follow(self, call):
        """Takes in one call and says what its answer ought to be."""
        name = NAMES[call[0]]
        if name in NOT_IN_A_GROUP and self.group is not None:
            return [-9]
        return getattr(self, name)(*call[1:])

    def children(self, state):
        return sorted(child for child in self.parents if self.parents[child] == state)

    def root(self):
        return self.way(self.current)[0]

    def way(self, state):
        way = [state]
        while self.parents[way[0]] is not None:
            way.insert(0, self.parents[way[0]])
        return way

    def bytes_of(self, state):
        return [byte for byte, _ in self.cells[state]]

    def create(self, changes, cells):
        self.parents[self.next] = self.current
        self.times[self.next] = self.clock
        self.changes[self.next] = changes
        self.cells[self.next] = cells
        self.visited[self.current] = self.next
        self.current = self.next
        self.next += 1

    def ways_from(self, state):
        """The ways to all states, found by walking from neighbour to neighbour."""
        ways = {state: [state]}
        edge = [state]
        while edge:
            reached = edge.pop(0)
            for neighbour in self.children(reached) + [self.parents[reached]]:
                if neighbour is not None and neighbour not in ways:
                    ways[neighbour] = ways[reached] + [neighbour]
                    edge.append(neighbour)
        return ways

    def steps_to(self, state):
        """The steps up and down; a step up leads to a lesser number."""
        way = self.ways_from(self.current)[state]
        ups = [before > behind for before, behind in zip(way, way[1:])]
        return [ups.count(True), ups.count(False)]

    def move(self, state):
        steps = self.steps_to(state)
        way = self.way(state)
        self.visited.update(zip(way, way[1:]))
        self.current = state
        return steps + [len(self.cells[state])]

    def without(self, state):
        """The current text as if the change of a state had never been made; None where a later one overlaps it."""
        way = self.way(self.current)
        (position, removed, inserted), = self.changes[state]
        text = self.bytes_of(self.parents[state])
        region = position
        for later_state in way[way.index(state) + 1:]:
            for later_position, later_removed, later_inserted in self.changes[later_state]:
                if later_position >= region + len(inserted):
                    there = later_position + removed - len(inserted)
                elif later_position + later_removed <= region:
                    there = later_position
                    region += len(later_inserted) - later_removed
                else:
                    return None, None
                text = put_in(text, there, later_removed, later_inserted)
        return text, region

    def start(self, count, *text):
        if count > 300 or max(text, default=0) > 255:
            return [-1]
        self.begin(text)
        return [count]

    def wait(self, ticks):
        if self.clock + ticks > 1000000:
            return [-1]
        self.clock += ticks
        return [self.clock]

    def change(self, position, removed, count, *inserted):
        old = self.cells[self.current] if self.group is None else self.group_cells
        if position + removed > len(old) or max(inserted, default=0) > 255:
            return [-1]
        if len(old) - removed + count > 300:
            return [-6]
        new = put_in(old, position, removed, [(byte, self.next) for byte in inserted])
        if self.group is not None:
            self.group.append((position, removed, inserted))
            self.group_cells = new
            return [self.next, len(new)]
        self.create([(position, removed, inserted)], new)
        return [self.current, len(new)]

    def open_group(self):
        if self.group is not None:
            return [-9]
        self.group = []
        self.group_cells = self.cells[self.current]
        return [self.next]

    def close_group(self):
        if self.group is None:
            return [-9]
        if self.group:
            self.create(self.group, self.group_cells)
        self.group = None
        return [self.current]

    def undo(self):
        if self.current == self.root():
            return [-7]
        self.current = self.parents[self.current]
        return [self.current, len(self.cells[self.current])]

    def redo(self):
        children = self.children(self.current)
        if not children:
            return [-7]
        if self.visited.get(self.current) not in children:
            self.visited[self.current] = children[-1]
        self.current = self.visited[self.current]
        return [self.current, len(self.cells[self.current])]

    def go_to(self, state):
        if state not in self.parents:
            return [-2]
        return self.move(state)

    def earlier(self, n):
        states = sorted(state for state in self.parents if state < self.current)
        if n == 0:
            return [-1]
        if n > len(states):
            return [-7]
        return [states[-n]] + self.move(states[-n])

    def later(self, n):
        states = sorted(state for state in self.parents if state > self.current)
        if n == 0:
            return [-1]
        if n > len(states):
            return [-7]
        return [states[n - 1]] + self.move(states[n - 1])

    def ago(self, ticks):
        states = [state for state in self.parents if self.times[state] + ticks <= self.clock]
        if not states:
            return [-7]
        return [max(states)] + self.move(max(states))

    def get_text(self):
        cells = self.cells[self.current] if self.group is None else self.group_cells
        return counted([byte for byte, _ in cells])

    def state_info(self, state):
        if state not in self.parents:
            return [-2]
        parent = 0 if self.parents[state] is None else self.parents[state] + 1
        return [parent, self.times[state], len(self.way(state)) - 1, int(state in self.kept),
                len(self.changes[state])] + counted(self.children(state))

    def leaves(self):
        return counted(sorted(state for state in self.parents if not self.children(state)))

    def path(self, from_state, to_state):
        if from_state not in self.parents or to_state not in self.parents:
            return [-2]
        return counted(self.ways_from(from_state)[to_state])

    def origins(self):
        # What a state inserted that is deleted by now is in the text of the root.
        return counted([max(maker, self.root()) for _, maker in self.cells[self.current]])

    def revert(self, state):
        if state not in self.parents:
            return [-2]
        if state not in self.way(self.current)[1:]:
            return [-6]
        if len(self.changes[state]) > 1:
            return [-4]
        text, region = self.without(state)
        if text is None:
            return [-8]
        if len(text) > 300:
            return [-5]
        (position, removed, inserted), = self.changes[state]
        restored = self.bytes_of(self.parents[state])[position:position + removed]
        cells = put_in(self.cells[self.current], region, len(inserted), [(byte, self.next) for byte in restored])
        self.create([(region, len(inserted), restored)], cells)
        if self.bytes_of(self.current) != text:
            raise AssertionError(f"two texts for one revert: {self.bytes_of(self.current)} and {text}")
        return [self.current, len(text)]

    def set_kept(self, state, kept):
        if state not in self.parents:
            return [-2]
        self.kept = [other for other in self.kept if other != state] + [state] * kept
        return [0]

    def delete(self, state):
        for table in (self.parents, self.times, self.changes, self.cells):
            table.pop(state)

    def forget(self, limit):
        if limit == 0:
            return [-1]
        deleted = []
        while len(self.parents) > limit:
            leaves = [state for state in self.leaves()[1:] if state not in self.kept + [self.current, self.root()]]
            if not leaves:
                break
            self.delete(leaves[0])
            deleted.append(leaves[0])
        while len(self.parents) > limit:
            root = self.root()
            children = self.children(root)
            if root == self.current or root in self.kept or len(children) != 1:
                break
            self.parents[children[0]] = None
            self.changes[children[0]] = []
            self.delete(root)
            deleted.append(root)
        return counted(deleted)

    def text_of(self, state):
        if state not in self.parents:
            return [-2]
        return counted(self.bytes_of(state))


def followed(calls):
    """A follower that has followed these calls to their end."""
    follower = Follower()
    for call in calls:
        follower.follow(call)
    return follower


def closed_sessions(length, count=SESSIONS):
    """Sessions that end without an open group, each with its follower."""
    for calls in made_up_sessions(length, count):
        before = calls + [CLOSE_GROUP]
        yield before, followed(before)


class MadeUpSessions(unittest.TestCase):
    def test_every_answer(self):
        for calls in made_up_sessions(80):
            follower = Follower()
            for place, (call, answer) in enumerate(zip(calls, run(*calls))):
                self.assertEqual(answer, follower.follow(call), (place, calls))

    def test_every_call_is_answered_and_refused(self):
        answered = {}
        for calls in made_up_sessions(80):
            for call, answer in zip(calls, run(*calls)):
                answered.setdefault(NAMES[call[0]], set()).add(min(answer[0], 0))
        for name, codes in (("wait", [-1]), ("change", [-6, -1]), ("open_group", [-9]), ("close_group", [-9]),
                            ("undo", [-9, -7]), ("redo", [-9, -7]), ("go_to", [-9, -2]), ("earlier", [-9, -7, -1]),
                            ("later", [-9, -7, -1]), ("ago", [-9, -7]), ("state_info", [-2]), ("path", [-2]),
                            ("origins", [-9]), ("revert", [-9, -8, -6, -5, -4, -2]), ("set_kept", [-2]),
                            ("forget", [-9, -1]), ("text_of", [-2])):
            self.assertEqual(sorted(answered[name]), codes + [0], name)

    def test_a_refused_call_changes_nothing(self):
        for calls in made_up_sessions(80):
            taken = [(call, answer) for call, answer in zip(calls, run(*calls)) if answer[0] >= 0]
            self.assertEqual(run(*[call for call, _ in taken]), [answer for _, answer in taken])

    def test_a_question_changes_nothing(self):
        questions = (GET_TEXT_CALL, STATE_INFO_CALL, LEAVES_CALL, PATH_CALL, ORIGINS_CALL, TEXT_OF_CALL)
        for calls in made_up_sessions(80):
            others = [(call, answer) for call, answer in zip(calls, run(*calls)) if call[0] not in questions]
            self.assertEqual(run(*[call for call, _ in others]), [answer for _, answer in others])


class Requirements(unittest.TestCase):
    def test_1_texts_of_states_stay(self):
        questions = [text_of(state) for state in range(40)]
        for calls in made_up_sessions(40, 60):
            texts = [[-2]] * 40
            for end in range(1, 41):
                new_texts = run_after(calls[:end], *questions)
                for text, new_text in zip(texts, new_texts):
                    if text != [-2] and new_text != [-2]:
                        self.assertEqual(new_text, text)
                texts = new_texts

    def test_1_texts_are_those_of_the_follower(self):
        for before, follower in closed_sessions(39):
            states = list(follower.parents)
            for state, text in zip(states, run_after(before, *[text_of(state) for state in states])):
                self.assertEqual(text, counted(follower.bytes_of(state)))

    def test_2_one_tree_with_one_root(self):
        for calls in made_up_sessions(39):
            infos = dict(enumerate(run_after(calls, *[state_info(state) for state in range(40)])))
            infos = {state: info for state, info in infos.items() if info != [-2]}
            self.assertEqual([info[0] for info in infos.values()].count(0), 1)
            for state, info in infos.items():
                self.assertEqual(info[6:], [child for child in infos if infos[child][0] == state + 1])
                self.assertEqual(info[5], len(info) - 6)
                if info[0] == 0:
                    self.assertEqual(info[2], 0)
                    self.assertEqual(info[4], 0)
                else:
                    self.assertLess(info[0] - 1, state)
                    self.assertIn(info[0] - 1, infos)
                    self.assertEqual(info[2], infos[info[0] - 1][2] + 1)
                    self.assertGreaterEqual(info[4], 1)

    def test_2_the_current_state_always_exists(self):
        for calls in made_up_sessions(76):
            before = calls + [CLOSE_GROUP]
            state = run_after(before, OPEN_GROUP, CLOSE_GROUP)[1][0]
            text, moved = run_after(before, GET_TEXT, go_to(state))
            self.assertEqual(moved, [0, 0, text[0]])
            self.assertEqual(run_after(before, text_of(state)), [text])

    def test_3_undo_and_redo_around_a_change(self):
        for before, follower in closed_sessions(70):
            for made in (change(0, 0), change(0, 0, [5]), change(0, 1)):
                old, done, new, undone, undone_text, redone, redone_text = run_after(
                    before, GET_TEXT, made, GET_TEXT, UNDO, GET_TEXT, REDO, GET_TEXT)
                if done[0] >= 0:
                    self.assertEqual(undone, [follower.current, old[0]])
                    self.assertEqual(undone_text, old)
                    self.assertEqual(redone, done)
                    self.assertEqual(redone_text, new)

    def test_4_path_is_a_shortest_connection_and_go_to_takes_it(self):
        for before, follower in closed_sessions(40, 150):
            for state, way in follower.ways_from(follower.current).items():
                answered, moved = run_after(before, path(follower.current, state), go_to(state))
                self.assertEqual(answered, counted(way))
                self.assertEqual(moved[:2], follower.steps_to(state))

    def test_4_path_between_any_two_states(self):
        for before, follower in closed_sessions(40, 100):
            for state in follower.parents:
                ways = follower.ways_from(state)
                answered = run_after(before, *[path(state, other) for other in ways])
                self.assertEqual(answered, [counted(way) for way in ways.values()])

    def test_5_later_leads_back_from_earlier(self):
        for before, follower in closed_sessions(60, 150):
            lesser = [state for state in follower.parents if state < follower.current]
            for n in range(1, len(lesser) + 1):
                there, back = run_after(before, earlier(n), later(n))
                self.assertGreaterEqual(there[0], 0)
                self.assertEqual(back[:3], [follower.current, there[2], there[1]])

    def test_6_origins_are_on_the_path(self):
        for before, follower in closed_sessions(76):
            text, origins = run_after(before, GET_TEXT, ORIGINS)
            way = run_after(before, path(follower.root(), follower.current))[0][1:]
            self.assertEqual(origins[0], text[0])
            self.assertEqual(len(origins), len(text))
            for origin in origins[1:]:
                self.assertIn(origin, way)

    def test_7_a_revert_gives_the_text_without_the_change(self):
        reverted = 0
        for before, follower in closed_sessions(70):
            for state in follower.way(follower.current)[1:]:
                if len(follower.changes[state]) == 1:
                    text, _ = follower.without(state)
                    answered, new_text = run_after(before, revert(state), GET_TEXT)
                    if answered[0] >= 0:
                        self.assertEqual(new_text, counted(text))
                        reverted += 1
                    else:
                        self.assertTrue(text is None and answered == [-8] or len(text) > 300 and answered == [-5])
        self.assertGreater(reverted, SESSIONS)

    def test_8_a_revert_straight_after_a_change_gives_the_text_before(self):
        for before, follower in closed_sessions(70):
            for made in (change(0, 0), change(0, 0, [5]), change(0, 1), change(0, 2, [8]), change(1, 1, [1, 2, 3])):
                old, done, _ = run_after(before, GET_TEXT, made, GET_TEXT)
                if done[0] >= 0:
                    self.assertEqual(run_after(before, made, revert(done[0]), GET_TEXT)[1:],
                                     [[done[0] + 1, old[0]], old])

    def test_9_forget_never_deletes_the_current_state_or_a_kept_one(self):
        for before, follower in closed_sessions(40):
            kept = list(follower.parents)[::3]
            before = before + [set_kept(state, 1) for state in kept]
            for limit in (1, 2, 5):
                deleted, text = run_after(before, forget(limit), text_of(follower.current))
                self.assertEqual(text, counted(follower.bytes_of(follower.current)))
                self.assertEqual(deleted[0], len(set(deleted[1:])))
                for state in [follower.current, *kept]:
                    self.assertNotIn(state, deleted[1:])

    def test_10_one_undo_for_a_group(self):
        for before, follower in closed_sessions(60):
            for changes in ([change(0, 0)], [change(0, 0)] * 4, [change(0, 0), insert(1), change(0, 1)]):
                old, _, *_, closed, undone, text, redone = run_after(
                    before, GET_TEXT, OPEN_GROUP, *changes, CLOSE_GROUP, UNDO, GET_TEXT, REDO)
                self.assertEqual(undone, [follower.current, old[0]])
                self.assertEqual(text, old)
                self.assertEqual(redone[0], closed[0])
                self.assertGreater(closed[0], follower.current)


if __name__ == "__main__":
    unittest.main()
