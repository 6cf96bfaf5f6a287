"""Writes calls as the flat list asks for them, and compares their answers."""

import unittest

from keyedcalls.server import answers


def call(number, *arguments):
    """One call as its row of numbers; a list among the arguments is written number by number."""
    numbers = []
    for argument in arguments:
        numbers.extend(argument if isinstance(argument, list) else [argument])
    return [number, len(numbers), *numbers, 0]


def create(limit=1, queue_limit=16, discipline=0, shedding=0, lifetime=1000):
    return call(0, limit, queue_limit, discipline, shedding, lifetime)


def add_method(cost, roles, program):
    return call(1, cost, roles, program)


def add_client(token=7, roles=15, capacity=1000, refill=0):
    return call(2, token, roles, capacity, refill)


def request(client=0, token=7, method=0, timeout=1000, key=0, payload=()):
    return call(3, client, token, method, timeout, key, list(payload))


def cancel(number):
    return call(4, number)


def advance(duration):
    return call(5, duration)


def next_event():
    return call(6)


def run(count):
    return call(7, count)


def request_info(number):
    return call(8, number)


def response(number):
    return call(9, number)


def execution_info(number):
    return call(10, number)


def list_queue():
    return call(11)


def list_running():
    return call(12)


def registers():
    return call(13)


def quota(client=0):
    return call(14, client)


def find_key(client, key):
    return call(15, client, key)


def shutdown(grace):
    return call(16, grace)


def set_limit(limit):
    return call(17, limit)


def set_roles(client, roles):
    return call(18, client, roles)


def estimate():
    return call(19)


def preview(client=0, token=7, method=0, timeout=1000, key=0, payload=()):
    return call(20, client, token, method, timeout, key, list(payload))


def statistics():
    return call(21)


def status():
    return call(22)


def rows(calls):
    """The calls as rows for TalkCase.check whose answers are not looked at."""
    return [(one,) for one in calls]


def flat(calls):
    return [number for row in calls for number in row]


def replies(calls):
    """The answers of these calls, each as a list of its own."""
    numbers = answers(flat(calls))
    rows = []
    while numbers:
        count = numbers[0]
        rows.append(numbers[1:1 + count])
        numbers = numbers[1 + count:]
    return rows


def view(requests, executions):
    """Calls that show what a server holds, with its first two clients and this many requests and executions."""
    calls = [status(), statistics(), estimate(), registers(), quota(0), quota(1), next_event(), list_queue(), list_running()]
    calls += [find_key(0, key) for key in (5, 6)]
    calls += [request_info(number) for number in range(requests)]
    calls += [response(number) for number in range(requests)]
    calls += [execution_info(number) for number in range(executions)]
    return calls


class TalkCase(unittest.TestCase):
    def check(self, *rows):
        """Each row is a call and the numbers of its answer, or the call alone where the answer is not looked at."""
        found = replies([row[0] for row in rows])
        self.assertEqual(len(found), len(rows))
        for place, row in enumerate(rows):
            if len(row) > 1:
                self.assertEqual(found[place], list(row[1:]), f"call {place}: {row[0]}")

    def check_refused(self, before, refused, code, after):
        """The call is refused with this code, and the calls behind it are answered as without it."""
        with_it = replies(before + [refused] + after)
        self.assertEqual(with_it[len(before)], [code], f"call {refused}")
        self.assertEqual(with_it[len(before) + 1:], replies(before + after)[len(before):], f"after {refused}")
