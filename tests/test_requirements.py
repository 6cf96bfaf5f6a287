"""The document's requirements, looked at behind every call of many sequences of calls."""

import random
import unittest

from keyedcalls.operations import create, perform
from keyedcalls.state import DROPPED, FINISHED, QUEUED, RUNNING, present_quota

SEQUENCES = 400
CALLS = 55


def some_program(pick, method_count):
    codes = [(0, 60), (1, 1000), (2, 0), (3, 3), (4, 16), (6, 3)]
    if method_count > 0:
        codes.append((5, method_count - 1))
    program = []
    for _ in range(pick.randint(0, 4)):
        code, greatest = pick.choice(codes + [(0, 60)] * 4)
        program += [code, pick.randint(1 if code == 4 else 0, greatest)]
    return program


def some_server(pick):
    server = create([pick.randint(1, 3), pick.randint(0, 4), pick.randint(0, 2), pick.randint(0, 1), pick.choice([0, 30, 500])])
    for number in range(3):
        perform(server, 1, [pick.randint(0, 2), pick.choice([0, 0, 1, 3])] + some_program(pick, number))
    for _ in range(2):
        perform(server, 2, [7, pick.choice([15, 3, 1]), pick.randint(1, 9), pick.choice([0, 20, 1000])])
    return server


def some_call(pick):
    """A call's number and its numbers; mostly requests, as they make the rest interesting."""
    kind = pick.randint(0, 9)
    if kind < 6:
        payload = [pick.randint(0, 2) for _ in range(pick.randint(0, 1))]
        return 3, [pick.randint(0, 1), pick.choice([7] * 9 + [8]), pick.choice([0, 0, 1, 1, 2, 2, 3]),
                   pick.choice([1, 9, 40, 90, 500]), pick.randint(0, 2)] + payload
    if kind == 6:
        return 4, [pick.randint(0, 30)]
    if kind < 9:
        return 5, [pick.choice([0, 1, 5, 30, 90])]
    return 7, [pick.randint(0, 2)]


class Requirements(unittest.TestCase):
    def check_keys(self, server):
        keyed = [execution for execution in server.executions if execution.key != 0]
        for later in keyed:
            for earlier in keyed[:keyed.index(later)]:
                if (earlier.client, earlier.key) != (later.client, later.key):
                    continue
                self.assertIn(earlier.state, (FINISHED, DROPPED))
                if earlier.state == FINISHED and later.state in (RUNNING, FINISHED):
                    self.assertGreaterEqual(later.started_at, earlier.finished_at + server.lifetime)

    def check_slots(self, server):
        states = [execution.state for execution in server.executions]
        self.assertLessEqual(states.count(RUNNING), server.limit)
        self.assertLessEqual(states.count(QUEUED), server.queue_limit)
        if QUEUED in states:
            self.assertEqual(states.count(RUNNING), server.limit)

    def check_requests(self, server, ended):
        waited_for = set()
        for request in server.requests:
            known = ended.get(request.number)
            told = (request.status, request.finished_at)
            if known is not None:
                self.assertEqual(told, known, "a request ends once")
            if request.status is None:
                self.assertGreaterEqual(request.deadline, server.now)
                self.assertIn(server.executions[request.execution].state, (QUEUED, RUNNING))
                waited_for.add(request.execution)
                continue
            ended[request.number] = told
            if request.status == 0:
                execution = server.executions[request.execution]
                self.assertEqual((execution.state, execution.status), (FINISHED, 0))
        for execution in server.executions:
            if execution.state == QUEUED:
                self.assertIn(execution.number, waited_for)

    def check_quotas(self, server):
        for client in server.clients:
            quota = present_quota(client, server.now)
            self.assertLessEqual(quota, client.capacity * 1000)
            self.assertGreaterEqual(quota, 0)

    def test_behind_every_call(self):
        seen = {QUEUED: 0, RUNNING: 0, FINISHED: 0, DROPPED: 0}
        statuses = set()
        for seed in range(SEQUENCES):
            pick = random.Random(seed)
            server = some_server(pick)
            ended = {}
            for _ in range(CALLS):
                perform(server, *some_call(pick))
                self.check_keys(server)
                self.check_slots(server)
                self.check_requests(server, ended)
                self.check_quotas(server)
            for execution in server.executions:
                seen[execution.state] += 1
            statuses.update(request.status for request in server.requests)
        # The sequences are worth something only if all of this occurs in them.
        self.assertTrue(all(count > 50 for count in seen.values()), seen)
        self.assertLessEqual({None, 0, 1, 3, 4, 7, 8, 12, 16, 100}, statuses)
