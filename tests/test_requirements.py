"""The document's requirements, looked at behind every call of many lists that mix all 23 calls."""

import random
import unittest

from keyedcalls.operations import create, perform
from keyedcalls.server import answers
from keyedcalls.state import DROPPED, FINISHED, QUEUED, RUNNING, present_quota
from talk import call, flat

LISTS = 500
MOST_CALLS = 60
SENDS = 3
PREVIEWS = 20


def some_program(pick, method_count):
    codes = [(0, 60), (1, 1000), (2, 0), (3, 3), (4, 16), (6, 3)]
    if method_count > 0:
        codes.append((5, method_count - 1))
    program = []
    for _ in range(pick.randint(0, 4)):
        code, greatest = pick.choice(codes + [(0, 60)] * 4)
        program += [code, pick.randint(1 if code == 4 else 0, greatest)]
    return program


def some_create(pick):
    return 0, [pick.randint(1, 3), pick.randint(0, 4), pick.randint(0, 2), pick.randint(0, 1), pick.choice([0, 30, 500])]


def some_method(pick, number):
    return 1, [pick.randint(0, 2), pick.choice([0, 0, 1, 3])] + some_program(pick, number)


def some_client(pick):
    return 2, [7, pick.choice([15, 3, 1]), pick.randint(1, 9), pick.choice([0, 20, 1000])]


def some_ask(pick):
    payload = [pick.randint(0, 2) for _ in range(pick.randint(0, 1))]
    return [pick.randint(0, 1), pick.choice([7] * 9 + [8]), pick.choice([0, 0, 1, 1, 2, 2, 3]),
            pick.choice([1, 9, 40, 90, 500]), pick.randint(0, 2)] + payload


def some_change(pick):
    """A call that changes the server: its number and its numbers."""
    kind = pick.randint(0, 9)
    if kind < 2:
        return 4, [pick.randint(0, 20)]
    if kind < 5:
        return 5, [pick.choice([0, 1, 5, 30, 90])]
    if kind < 6:
        return 7, [pick.randint(0, 2)]
    if kind < 8:
        return 17, [pick.randint(0, 4)]
    return 18, [pick.randint(0, 2), pick.choice([15, 3, 1, 0, 16])]


def some_look(pick):
    number = pick.choice([6, 8, 9, 10, 11, 12, 13, 14, 15, 19, 21, 22])
    if number in (8, 9, 10):
        return number, [pick.randint(0, 12)]
    if number == 14:
        return number, [pick.randint(0, 2)]
    if number == 15:
        return number, [pick.randint(0, 2), pick.randint(0, 2)]
    return number, []


def some_call(pick):
    """A call's number and its numbers; mostly requests, as they make the rest interesting."""
    kind = pick.randint(0, 99)
    if kind < 50:
        return SENDS, some_ask(pick)
    if kind < 58:
        return PREVIEWS, some_ask(pick)
    if kind < 80:
        return some_change(pick)
    if kind < 97:
        return some_look(pick)
    if kind < 98:
        return some_method(pick, 3)
    return some_client(pick)


def some_calls(pick):
    """A list of up to 60 calls; some begin without a server, some shut it down, some make another one."""
    calls = [some_look(pick)] if pick.randint(0, 9) == 0 else []
    calls += [some_create(pick)] + [some_method(pick, number) for number in range(3)] + [some_client(pick), some_client(pick)]
    while len(calls) < MOST_CALLS:
        calls.append(some_call(pick))
    if pick.randint(0, 2) == 0:
        calls[pick.randint(35, 59)] = (16, [pick.choice([0, 20, 60, 100000, 100001])])
        calls[-1] = (16, [pick.choice([0, 5])])
    if pick.randint(0, 9) == 0:
        calls[pick.randint(8, 59)] = some_create(pick) if pick.randint(0, 1) == 0 else (0, [0, 0, 0, 0, 0])
    return calls[:pick.choice([60, 60, 60, 45, 20])]


class Play:
    """Does the calls of a list one by one, so that the server can be looked at between them."""

    def __init__(self):
        self.server = None
        # What each request of the present server ended with.
        self.ended = {}
        self.grace = 0
        self.grace_end = None

    def do(self, number, numbers):
        if number != 0:
            return [-11] if self.server is None else perform(self.server, number, list(numbers))
        created = create(numbers)
        if created is None:
            return [-22]
        self.server = created
        self.ended = {}
        self.grace_end = None
        return [0]

    def step(self, number, numbers):
        answer = self.do(number, numbers)
        if number == 16 and answer[0] >= 0:
            self.grace = numbers[0]
            self.grace_end = self.server.now + self.grace
        return answer


class Requirements(unittest.TestCase):
    def check_keys(self, server):
        keyed = [execution for execution in server.executions if execution.key != 0]
        for place, later in enumerate(keyed):
            for earlier in keyed[:place]:
                if (earlier.client, earlier.key) != (later.client, later.key):
                    continue
                self.assertIn(earlier.state, (FINISHED, DROPPED))
                if earlier.state == FINISHED and later.state in (RUNNING, FINISHED):
                    self.assertGreaterEqual(later.started_at, earlier.finished_at + server.lifetime)

    def check_slots(self, server):
        states = [execution.state for execution in server.executions]
        self.assertLessEqual(states.count(QUEUED), server.queue_limit)
        if QUEUED in states:
            self.assertGreaterEqual(states.count(RUNNING), server.limit)

    def check_requests(self, server, ended):
        waited_for = set()
        for request in server.requests:
            known = ended.get(request.number)
            told = (request.status, request.finished_at)
            if known is not None:
                self.assertEqual(told, known, "a request ends once")
            if request.status is None:
                self.assertGreaterEqual(request.deadline, server.now)
                self.assertIn(server.executions[request.execution].state, (QUEUED, RUNNING))
                waited_for.add(request.execution)
                continue
            ended[request.number] = told
            if request.status == 0:
                execution = server.executions[request.execution]
                self.assertEqual((execution.state, execution.status), (FINISHED, 0))
        for execution in server.executions:
            if execution.state == QUEUED:
                self.assertIn(execution.number, waited_for)

    def check_quotas(self, server):
        for client in server.clients:
            quota = present_quota(client, server.now)
            self.assertLessEqual(quota, client.capacity * 1000)
            self.assertGreaterEqual(quota, 0)

    def check_grace(self, play):
        if play.grace_end is None or (play.grace > 0 and play.server.now <= play.grace_end):
            return
        for execution in play.server.executions:
            self.assertIn(execution.state, (FINISHED, DROPPED))
        self.assertEqual([request.number for request in play.server.requests if request.status is None], [])

    def check_all(self, play):
        if play.server is not None:
            self.check_keys(play.server)
            self.check_slots(play.server)
            self.check_requests(play.server, play.ended)
            self.check_quotas(play.server)
            self.check_grace(play)

    def test_behind_every_call(self):
        seen = {QUEUED: 0, RUNNING: 0, FINISHED: 0, DROPPED: 0}
        statuses = set()
        refusals = {}
        for seed in range(LISTS):
            play = Play()
            for number, numbers in some_calls(random.Random(seed)):
                answer = play.step(number, numbers)
                refusals.setdefault(number, set()).add(min(answer[0], 0))
                self.check_all(play)
            for execution in play.server.executions:
                seen[execution.state] += 1
            statuses.update(request.status for request in play.server.requests)
        # The lists are worth something only if all of this occurs in them.
        self.assertTrue(all(count > 50 for count in seen.values()), seen)
        self.assertLessEqual({None, 0, 1, 3, 4, 7, 8, 12, 16, 100}, statuses)
        self.assertEqual(sorted(refusals), list(range(23)))
        self.assertTrue(all(0 in codes for codes in refusals.values()), refusals)
        self.assertLessEqual({-22, -16}, refusals[16])

    def test_the_flat_list_has_the_same_answers_and_stays_as_it_was(self):
        for seed in range(LISTS):
            calls = some_calls(random.Random(seed))
            play = Play()
            wanted = []
            for number, numbers in calls:
                answer = play.step(number, numbers)
                wanted += [len(answer)] + answer
            handed_in = flat([call(number, numbers) for number, numbers in calls])
            before = list(handed_in)
            first = answers(handed_in)
            self.assertEqual(first, wanted)
            self.assertEqual(handed_in, before)
            self.assertEqual(answers(handed_in), first)
            self.assertEqual({type(number) for number in first}, {int})

    def test_a_preview_shows_what_the_request_behind_it_gets_and_changes_nothing(self):
        for seed in range(LISTS):
            with_previews, without = Play(), Play()
            for number, numbers in some_calls(random.Random(seed)):
                if number == PREVIEWS:
                    with_previews.step(number, numbers)
                    continue
                shown = with_previews.step(PREVIEWS, numbers) if number == SENDS else None
                answer = without.step(number, numbers)
                self.assertEqual(with_previews.step(number, numbers), answer)
                if shown is not None:
                    self.assertEqual(shown, answer[-1:])
