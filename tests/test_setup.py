"""create, add_method and add_client: ranges, errors and their order, and what they leave as it was."""

from keyedcalls.programs import is_program
from talk import (TalkCase, add_client, add_method, advance, call, cancel, create, estimate, execution_info, find_key,
                  list_queue, list_running, next_event, preview, quota, registers, replies, request, request_info, response,
                  run, set_limit, set_roles, shutdown, statistics, status, view)

GREATEST = 4294967295
EACH_BUT_CREATE = [
    add_method(0, 0, []), add_client(), request(), cancel(0), advance(0), next_event(), run(0),
    request_info(0), response(0), execution_info(0), list_queue(), list_running(), registers(), quota(0), find_key(0, 5),
    shutdown(0), set_limit(1), set_roles(0, 0), estimate(), preview(), statistics(), status(),
]
WRONG_ANYWHERE = [
    add_method(101, 16, [9]), add_client(65536, 16, 1001, 1001), request(9, 0, 9, 0, 0, [1001]), cancel(GREATEST),
    advance(1000001), run(41), request_info(GREATEST), response(GREATEST), execution_info(GREATEST),
    quota(GREATEST), find_key(GREATEST, 0), shutdown(100001), set_limit(0), set_limit(9), set_roles(GREATEST, 16),
    preview(9, 0, 9, 0, 0, [1001]),
]


class NoServer(TalkCase):
    def test_these_are_all_of_them(self):
        self.assertEqual([one[0] for one in EACH_BUT_CREATE], list(range(1, 23)))

    def test_every_call_but_create_is_refused(self):
        for one in EACH_BUT_CREATE + WRONG_ANYWHERE:
            self.check((one, -11))

    def test_a_refused_create_makes_no_server(self):
        for one in EACH_BUT_CREATE:
            self.check((create(limit=0), -22), (one, -11))

    def test_they_are_not_refused_so_behind_create(self):
        for one in EACH_BUT_CREATE + WRONG_ANYWHERE:
            self.assertNotEqual(replies([create(), one])[1], [-11], one)


class Create(TalkCase):
    ranges = {"limit": (1, 8), "queue_limit": (0, 16), "discipline": (0, 2), "shedding": (0, 1), "lifetime": (0, 100000)}

    def test_each_argument_at_the_edges_of_its_range(self):
        for name, (least, greatest) in self.ranges.items():
            for inside in (least, greatest):
                self.check((create(**{name: inside}), 0))
            for outside in (greatest + 1, GREATEST):
                self.check((create(**{name: outside}), -22))
        self.check((create(limit=0), -22))

    def test_a_refused_one_keeps_the_server(self):
        before = [create(), add_method(0, 0, [3, 1, 0, 50]), add_client(), request(payload=[4]), request(key=3), advance(9)]
        for name, (_, greatest) in self.ranges.items():
            after = view(2, 2) + [add_client(), add_method(0, 0, [])]
            self.check_refused(before, create(**{name: greatest + 1}), -22, after)

    def test_another_one_replaces_the_server(self):
        first = [
            create(limit=2), add_method(0, 0, [3, 1, 0, 800]), add_client(), request(payload=[4]), advance(900),
            request(), request(), request(),
        ]
        rows = [(row,) for row in first] + [
            (create(limit=1, queue_limit=0), 0),
            (run(0), 0),
            (next_event(), -33),
            (list_queue(), 0),
            (request_info(0), -2),
            (execution_info(0), -2),
            (request(), -2),
            (add_client(), 0),
            (request(), 0, 13),
            (add_method(0, 0, [6, 1, 0, 10]), 0),
            (request(), 1, 0),
            (execution_info(0), 0, 0, 0, 1, 10, 0, 0, 2, 1, 1),
            # The average is 0 again too: a full server tells no wait.
            (request(), 2, 101),
            (request_info(2), 101, 0, 0, 1000, 0, 0, 0, 0),
            (advance(10), 1, 10),
            (response(1), 1, 0),
        ]
        self.check(*rows)


class AddMethod(TalkCase):
    def check_program(self, program, taken):
        calls = [create(), add_method(0, 0, []), add_method(0, 0, program), add_method(0, 0, [])]
        wanted = [[1], [2]] if taken else [[-22], [1]]
        self.assertEqual(replies(calls)[2:], wanted, program)

    def test_it_numbers_the_methods_from_0_and_takes_6(self):
        rows = [(create(), 0)] + [(add_method(0, 0, []), number) for number in range(6)]
        self.check(*rows, (add_method(0, 0, []), -28), (add_method(0, 0, []), -28))

    def test_cost_and_roles_at_their_edges(self):
        self.check(
            (create(), 0),
            (add_method(100, 15, []), 0),
            (add_method(0, 0, []), 1),
            (add_method(101, 0, []), -22),
            (add_method(GREATEST, 0, []), -22),
            (add_method(0, 16, []), -22),
            (add_method(0, GREATEST, []), -22),
            (add_method(100, 15, [2, 0]), 2),
        )

    def test_the_arguments_of_each_code_at_their_edges(self):
        edges = {0: (0, 10000), 1: (0, 1000), 2: (0, 0), 3: (0, 3), 4: (1, 16), 6: (0, 3)}
        for code, (least, greatest) in edges.items():
            self.check_program([code, least], True)
            self.check_program([code, greatest], True)
            self.check_program([code, greatest + 1], False)
            self.check_program([code, GREATEST], False)
        self.check_program([4, 0], False)

    def test_only_an_earlier_method_can_be_called(self):
        self.check((create(), 0), (add_method(0, 0, [5, 0]), -22), (add_method(0, 0, []), 0))
        self.check_program([5, 0], True)
        self.check_program([5, 1], False)
        self.check_program([5, 2], False)
        self.check_program([5, GREATEST], False)
        rows = [(create(), 0), (add_method(0, 0, []), 0)]
        for number in range(1, 6):
            rows += [(add_method(0, 0, [5, number]), -22), (add_method(0, 0, [5, number - 1]), number)]
        self.check(*rows)

    def test_unknown_codes(self):
        self.check_program([7, 0], False)
        self.check_program([GREATEST, 0], False)

    def test_every_instruction_is_looked_at(self):
        self.check_program([2, 0] * 7 + [1, 1000], True)
        self.check_program([2, 0] * 7 + [1, 1001], False)
        self.check_program([1, 1001] + [2, 0] * 7, False)
        self.check_program([2, 0, 7, 0, 2, 0], False)

    def test_an_odd_number_of_numbers(self):
        for program in ([0], [2, 0, 0], [2, 0] * 7 + [2]):
            self.check_program(program, False)

    def test_at_most_8_instructions(self):
        self.check_program([2, 0] * 8, True)
        self.check_program([2, 0] * 9, False)
        self.assertFalse(is_program([2, 0] * 9, 0))

    def test_an_argument_outside_its_limits_comes_ahead_of_too_many(self):
        full = [create()] + [add_method(0, 0, []) for _ in range(6)] + [add_client()]
        for refused in (add_method(101, 0, []), add_method(0, 16, []), add_method(0, 0, [5, 6]), add_method(0, 0, [1])):
            self.check_refused(full, refused, -22, [request(method=5), request(method=6)])
        self.check_refused(full, add_method(0, 0, [5, 5]), -28, [request(method=5), request(method=6)])


class AddClient(TalkCase):
    ranges = {"token": 65535, "roles": 15, "capacity": 1000, "refill": 1000}

    def test_it_numbers_the_clients_from_0_and_takes_8(self):
        rows = [(create(), 0)] + [(add_client(), number) for number in range(8)]
        self.check(*rows, (add_client(), -28), (add_client(), -28))

    def test_each_argument_at_the_edges_of_its_range(self):
        for name, greatest in self.ranges.items():
            self.check(
                (create(), 0),
                (add_client(**{name: 0}), 0),
                (add_client(**{name: greatest}), 1),
                (add_client(**{name: greatest + 1}), -22),
                (add_client(**{name: GREATEST}), -22),
                (add_client(), 2),
            )

    def test_an_argument_outside_its_limits_comes_ahead_of_too_many(self):
        full = [create()] + [add_client(token=number) for number in range(8)]
        after = [request(client=7, token=7), request(client=8, token=8)]
        for name, greatest in self.ranges.items():
            self.check_refused(full, add_client(**{name: greatest + 1}), -22, after)
        self.check_refused(full, add_client(), -28, after)

    def test_its_arguments_are_what_requests_are_checked_against(self):
        self.check(
            (create(), 0),
            (add_method(2, 5, []), 0),
            (add_client(65535, 5, 2, 1), 0),
            (add_client(0, 4, 2, 1), 1),
            (add_client(0, 5, 1, 1), 2),
            (call(3, 0, 65535, 0, 9, 0), 0, 1),
            (call(3, 0, 65535, 0, 9, 0), 1, 9),
            (request_info(1), 9, 0, 0, 9, 0, 0, 0, 2000),
            (call(3, 1, 0, 0, 9, 0), 2, 8),
            (call(3, 2, 0, 0, 9, 0), 3, 9),
            (request_info(3), 9, 2, 0, 9, 0, 0, 0, 0),
        )
