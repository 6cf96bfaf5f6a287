"""The flat list of calls and of answers, and the document's example."""

import copy
import pathlib
import subprocess
import sys
import unittest

from keyedcalls.server import answers
from talk import (TalkCase, add_client, add_method, advance, cancel, create, execution_info, flat, list_queue, next_event,
                  quota, registers, request, request_info, response, run, shutdown)

TOP = pathlib.Path(__file__).resolve().parent.parent


class Example(TalkCase):
    def test_as_it_stands(self):
        self.check(
            (create(1, 1, 0, 0, 1000), 0),
            (add_method(1, 1, [0, 50, 3, 2]), 0),
            (add_method(0, 0, [1, 7, 5, 0, 4, 9]), 1),
            (add_client(77, 1, 2, 10), 0),
            (request(0, 78, 0, 100, 0, []), 0, 17),
            (request(0, 77, 0, 100, 5, [3, 4]), 1, 0),
            (request(0, 77, 0, 100, 5, [3, 4]), 2, 0),
            (request(0, 77, 0, 100, 5, [3]), 3, 4),
            (request(0, 77, 0, 40, 0, [1]), 4, 0),
            (list_queue(), 1, 1),
            (quota(0), 0, 2, 10),
            (request(0, 77, 0, 100, 0, []), 5, 9),
            (request_info(5), 9, 0, 0, 100, 0, 0, 0, 100),
            (advance(40), 1, 40),
            (execution_info(1), 0, 0, 0, 3, 0, 0, 40, 0, 0, 0),
            (advance(10), 1, 50),
            (response(2), 1, 7),
            (registers(), 4, 0, 0, 7, 0),
            (request(0, 77, 0, 100, 5, [3, 4]), 6, 1),
            (request(0, 77, 1, 100, 0, [2]), 7, 0),
            (run(1), 100),
            (request_info(7), 10, 0, 50, 150, 3, 0, 100, 0),
            (shutdown(0), 0, 0),
            (request(0, 77, 0, 9, 0, []), 8, 101),
        )


class FlatLists(unittest.TestCase):
    # Every one of the 23 calls, some of them refused, and a second server in the middle.
    calls = [
        0, 5, 1, 1, 0, 0, 1000, 0,
        1, 6, 0, 0, 3, 1, 0, 50, 0,
        1, 3, 0, 0, 1, 0,
        2, 4, 7, 0, 9, 0, 0,
        3, 7, 0, 7, 0, 100, 0, 3, 4, 0,
        3, 5, 0, 7, 0, 100, 6, 0,
        3, 5, 1, 7, 0, 100, 6, 0,
        6, 0, 0,
        11, 0, 0,
        5, 1, 50, 0,
        9, 1, 0, 0,
        4, 1, 1, 0,
        4, 1, 1, 0,
        0, 5, 0, 1, 0, 0, 1000, 0,
        8, 1, 1, 0,
        10, 1, 0, 0,
        12, 0, 0,
        13, 0, 0,
        14, 1, 0, 0,
        14, 1, 1, 0,
        15, 2, 0, 6, 0,
        15, 2, 0, 0, 0,
        17, 1, 8, 0,
        17, 1, 9, 0,
        18, 2, 0, 16, 0,
        18, 2, 0, 15, 0,
        19, 0, 0,
        20, 7, 0, 7, 0, 100, 0, 3, 4, 0,
        20, 5, 0, 8, 0, 100, 6, 0,
        21, 0, 0,
        16, 1, 9, 0,
        16, 1, 9, 0,
        22, 0, 0,
        7, 1, 3, 0,
        0, 5, 2, 0, 1, 1, 0, 0,
        11, 0, 0,
        8, 1, 0, 0,
        7, 1, 41, 0,
    ]
    wanted = [
        1, 0,
        1, 0,
        1, -22,
        1, 0,
        2, 0, 0,
        2, 1, 0,
        1, -2,
        3, 50, 0, 0,
        2, 1, 1,
        2, 1, 50,
        2, 1, 7,
        1, 0,
        1, -16,
        1, -22,
        8, 2, 0, 0, 100, 2, 0, 50, 0,
        10, 0, 0, 0, 2, 0, 0, 50, 2, 0, 1,
        2, 1, 1,
        5, 4, 0, 7, 0, 0,
        3, 9000, 9, 0,
        1, -2,
        3, 1, 1, 100,
        1, -33,
        1, 1,
        1, -22,
        1, -22,
        1, 0,
        2, 0, 50,
        1, 0,
        1, 17,
        7, 2, 1, 0, 0, 0, 0, 2,
        2, 1, 0,
        1, -16,
        6, 50, 1, 0, 1, 1, 1,
        1, 59,
        1, 0,
        1, 0,
        1, -2,
        1, -22,
    ]

    def test_a_count_stands_ahead_of_each_answer_and_a_refusal_is_its_code_alone(self):
        self.assertEqual(answers(self.calls), self.wanted)

    def test_they_hold_every_call(self):
        numbers = []
        position = 0
        while position < len(self.calls):
            numbers.append(self.calls[position])
            position += self.calls[position + 1] + 3
        self.assertEqual(sorted(set(numbers)), list(range(23)))
        self.assertLessEqual(len(numbers), 60)

    def test_the_answers_are_a_list_of_whole_numbers(self):
        found = answers(self.calls)
        self.assertIs(type(found), list)
        self.assertEqual({type(number) for number in found}, {int})

    def test_what_is_handed_in_stays_as_it_was(self):
        calls = list(self.calls)
        before = copy.deepcopy(calls)
        first = answers(calls)
        self.assertEqual(calls, before)
        first.append(5)
        self.assertEqual(calls, before)

    def test_nothing_is_kept_from_one_time_to_the_next(self):
        self.assertEqual(answers(self.calls), answers(self.calls))
        self.assertEqual(answers(flat([list_queue()])), [1, -11])
        self.assertEqual(answers(flat([create(), add_client(), list_queue()])), [1, 0, 1, 0, 1, 0])

    def test_answers_do_not_share_what_the_server_holds(self):
        calls = flat([create(), add_method(0, 0, [1, 4]), add_client(), request(), response(0), response(0)])
        self.assertEqual(answers(calls)[-6:], [2, 1, 4, 2, 1, 4])
        calls = flat([create(), add_method(0, 0, [3, 0]), add_client(), registers(), registers(), request(payload=[4]),
                      registers()])
        self.assertEqual(answers(calls)[6:], [5, 4, 0, 0, 0, 0] * 2 + [2, 0, 1] + [5, 4, 4, 0, 0, 0])

    def test_one_call_alone(self):
        self.assertEqual(answers([0, 5, 1, 0, 0, 0, 0, 0]), [1, 0])
        self.assertEqual(answers([0, 5, 0, 0, 0, 0, 0, 0]), [1, -22])
        self.assertEqual(answers([6, 0, 0]), [1, -11])

    def test_60_calls_in_one_list(self):
        calls = [create(limit=8), add_method(0, 0, [2, 0] * 5), add_client()]
        calls += [request(payload=[number] * 8) for number in range(28)]
        calls += [response(number) for number in range(28)] + [next_event()]
        self.assertEqual(len(calls), 60)
        wanted = [1, 0] * 3
        for number in range(28):
            wanted += [2, number, 1]
        for number in range(28):
            wanted += [41, 40] + [number] * 40
        self.assertEqual(answers(flat(calls)), wanted + [1, -33])

    def test_60_calls_of_the_greatest_length(self):
        calls = [create()] + [add_client()] + [request(payload=[1] * 16) for _ in range(58)]
        self.assertEqual(answers(flat(calls)), [1, 0] * 2 + [1, -22] * 58)

    def test_create_again_in_the_middle(self):
        one = [create(), add_method(0, 0, [3, 0, 0, 9]), add_client(), request(payload=[5]), run(1), cancel(0), response(0)]
        self.assertEqual(answers(flat(one + one)), answers(flat(one)) * 2)

    def test_it_prints_nothing(self):
        script = f"from keyedcalls.server import answers; answers({self.calls})"
        done = subprocess.run([sys.executable, "-c", script], capture_output=True, cwd=TOP, check=True)
        self.assertEqual(done.stdout + done.stderr, b"")
