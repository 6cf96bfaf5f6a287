"""set_limit and set_roles: their answers and errors, and what follows from a new limit and from new roles."""

from talk import (TalkCase, add_client, add_method, advance, cancel, create, estimate, execution_info, list_queue,
                  list_running, next_event, registers, request, request_info, response, rows, run, set_limit, set_roles,
                  status, view)

GREATEST = 4294967295


class SetLimit(TalkCase):
    busy = [create(limit=2), add_method(0, 0, [0, 80]), add_client()] + [request()] * 5

    def test_it_gives_the_previous_limit(self):
        self.check((create(limit=8), 0), (set_limit(1), 8), (set_limit(8), 1), (set_limit(3), 8), (set_limit(3), 3),
                   (set_limit(4), 3))

    def test_the_limit_at_its_edges(self):
        self.check(*rows(self.busy), (set_limit(1), 2), (set_limit(8), 1), (list_running(), 5, 0, 1, 2, 3, 4))
        for wrong in (0, 9, GREATEST):
            self.check_refused(self.busy, set_limit(wrong), -22, view(5, 5) + [set_limit(2), request(), run(1)] + view(6, 6))

    def test_a_smaller_one_stops_nothing_and_starts_nothing_till_fewer_run(self):
        self.check(
            (create(limit=3), 0),
            (add_method(0, 0, [0, 10]), 0),
            (add_method(0, 0, [0, 20]), 1),
            (add_method(0, 0, [0, 30]), 2),
            (add_client(), 0),
            (request(method=0), 0, 0),
            (request(method=1), 1, 0),
            (request(method=2), 2, 0),
            (request(), 3, 0),
            (request(), 4, 0),
            (set_limit(1), 3),
            (list_running(), 3, 0, 1, 2),
            (list_queue(), 2, 3, 4),
            (run(1), 10),
            (list_running(), 2, 1, 2),
            (run(1), 20),
            (list_running(), 1, 2),
            (list_queue(), 2, 3, 4),
            (run(1), 30),
            (list_running(), 1, 3),
            (list_queue(), 1, 4),
            (run(1), 40),
            (list_running(), 1, 4),
            (run(1), 50),
            (list_running(), 0),
            (execution_info(3), 0, 0, 0, 2, 0, 30, 40, 1, 0, 0),
        )

    def test_a_cancel_under_a_smaller_one(self):
        self.check(*rows(self.busy), (set_limit(1), 2), (cancel(0), 0), (list_running(), 1, 1), (cancel(1), 0),
                   (list_running(), 1, 2), (list_queue(), 2, 3, 4))

    def test_a_greater_one_starts_several_at_once(self):
        self.check(
            *rows(self.busy),
            (advance(30), 0, 30),
            (set_limit(4), 2),
            (list_running(), 4, 0, 1, 2, 3),
            (list_queue(), 1, 4),
            (execution_info(2), 0, 0, 0, 1, 110, 30, 0, 1, 1, 0),
            (execution_info(3), 0, 0, 0, 1, 110, 30, 0, 1, 1, 0),
            (status(), 30, 4, 1, 0, 1, 1),
        )

    def test_a_greater_one_that_is_still_smaller_than_what_runs_starts_nothing(self):
        calls = [create(limit=4), add_method(0, 0, [0, 80]), add_client()] + [request()] * 6
        self.check(*rows(calls), (set_limit(1), 4), (set_limit(3), 1), (list_running(), 4, 0, 1, 2, 3), (set_limit(4), 3),
                   (list_running(), 4, 0, 1, 2, 3), (set_limit(5), 4), (list_running(), 5, 0, 1, 2, 3, 4), (list_queue(), 1, 5))

    def test_those_that_end_at_once_make_room_for_more(self):
        self.check(
            (create(), 0),
            (add_method(0, 0, [0, 80]), 0),
            (add_method(0, 0, [3, 0]), 1),
            (add_client(), 0),
            (request(), 0, 0),
            (request(method=1, payload=[1]), 1, 0),
            (request(method=1, payload=[20]), 2, 0),
            (request(), 3, 0),
            (request(method=1, payload=[300]), 4, 0),
            (advance(8), 0, 8),
            (set_limit(2), 1),
            (response(1), 1, 1),
            (response(2), 1, 21),
            (request_info(2), 1, 0, 0, 1000, 3, 0, 8, 0),
            (list_running(), 2, 0, 3),
            (list_queue(), 1, 4),
            (set_limit(3), 2),
            (response(4), 1, 321),
            (list_running(), 2, 0, 3),
            (registers(), 4, 321, 0, 0, 0),
            (next_event(), 80, 0, 0),
        )

    def test_they_start_in_the_order_of_the_discipline(self):
        for discipline, order in ((0, [1, 2, 3]), (1, [2, 3, 1]), (2, [3, 2, 1])):
            calls = [create(discipline=discipline), add_method(0, 0, [0, 80]), add_client(), request(timeout=900)]
            calls += [request(timeout=timeout) for timeout in (700, 500, 600)]
            for count in range(4):
                started = sorted([0] + order[:count])
                self.check(*rows(calls), (set_limit(1 + count), 1), (list_running(), len(started), *started),
                           (list_queue(), 3 - count, *order[count:]))

    def test_arrivals_are_held_to_the_new_limit(self):
        calls = [create(limit=2, queue_limit=1), add_method(0, 0, [0, 80]), add_client(), request(), request(), request()]
        self.check(*rows(calls), (request(), 3, 101), (set_limit(3), 2), (request(), 4, 0), (request(), 5, 101))
        self.check(*rows(calls[:-1]), (cancel(0), 0), (set_limit(1), 2), (request(), 2, 0), (list_queue(), 1, 2),
                   (request(), 3, 101), (set_limit(2), 1), (list_queue(), 0), (request(), 4, 0))

    def test_the_estimated_wait_is_that_of_the_new_limit(self):
        self.check(
            *rows(self.busy[:3]),
            (request(), 0, 0),
            (advance(80), 1, 80),
            *rows([request()] * 5),
            # 80 // 8 is 10; of five executions those are queued that don't run.
            (estimate(), 4 * 10 // 2, 80),
            (set_limit(1), 2),
            (estimate(), 4 * 10, 80),
            (set_limit(3), 1),
            (estimate(), 3 * 10 // 3, 80),
            (set_limit(4), 3),
            (estimate(), 2 * 10 // 4, 80),
            (set_limit(5), 4),
            (estimate(), 10 // 5, 80),
            (set_limit(6), 5),
            (estimate(), 0, 80),
            (set_limit(2), 6),
            (estimate(), 10 // 2, 80),
        )

    def test_shedding_goes_by_the_new_limit(self):
        calls = [create(limit=2, shedding=1), add_method(0, 0, [0, 80]), add_client(), request(), advance(80), request(),
                 request()]
        self.check(*rows(calls), (request(timeout=6), 3, 0), (cancel(3), 0), (set_limit(1), 2), (request(timeout=10), 4, 101),
                   (request_info(4), 101, 0, 80, 90, 0, 0, 80, 10), (request(timeout=11), 5, 0))


class SetRoles(TalkCase):
    served = [create(limit=2), add_method(0, 6, [0, 80]), add_client(roles=2), add_client(token=8, roles=6),
              request(1, 8, key=5)]

    def test_it_gives_the_previous_roles(self):
        self.check((create(), 0), (add_client(roles=15), 0), (add_client(roles=0), 1), (set_roles(0, 3), 15), (set_roles(1, 8), 0),
                   (set_roles(0, 3), 3), (set_roles(0, 0), 3), (set_roles(1, 15), 8), (set_roles(0, 1), 0))

    def test_a_method_s_required_roles_are_looked_for_in_the_new_ones(self):
        self.check(
            *rows(self.served),
            (request(), 1, 8),
            (set_roles(0, 4), 2),
            (request(), 2, 8),
            (set_roles(0, 6), 4),
            (request(), 3, 0),
            (set_roles(0, 15), 6),
            (request(), 4, 0),
            (set_roles(0, 9), 15),
            (request(), 5, 8),
        )

    def test_for_every_set_of_roles(self):
        for roles in range(16):
            served = roles & 6 == 6
            self.check(*rows(self.served), (set_roles(0, roles), 2), (request(), 1, 0 if served else 8))

    def test_what_was_let_in_stays_in_but_no_request_joins_it_without_the_roles(self):
        self.check(
            *rows(self.served),
            (request(1, 8, key=5), 1, 0),
            (set_roles(1, 0), 6),
            (request(1, 8, key=5), 2, 8),
            (execution_info(0), 1, 5, 0, 1, 80, 0, 0, 1, 2, 0),
            (advance(80), 1, 80),
            (request_info(0), 1, 1, 0, 1000, 1, 0, 80, 0),
            (request(1, 8, key=5), 3, 8),
            (set_roles(1, 6), 0),
            (request(1, 8, key=5), 4, 1),
        )

    def test_other_clients_keep_theirs(self):
        self.check(*rows(self.served), (set_roles(0, 15), 2), (set_roles(1, 6), 6), (request(1, 8), 1, 0))

    def test_the_client_must_exist_and_the_roles_be_at_most_15(self):
        after = view(1, 1) + [request(), request(1, 8), set_roles(0, 2), set_roles(1, 6)]
        for client in (2, GREATEST):
            for roles in (0, 15, 16, GREATEST):
                self.check_refused(self.served, set_roles(client, roles), -2, after)
        for client in (0, 1):
            for roles in (16, GREATEST):
                self.check_refused(self.served, set_roles(client, roles), -22, after)
        self.check((create(), 0), (set_roles(0, 0), -2), (set_roles(0, 16), -2))
