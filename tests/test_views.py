"""list_running, registers, quota, find_key, estimate, statistics and status: what they tell, and their errors."""

from talk import (TalkCase, add_client, add_method, advance, cancel, create, estimate, execution_info, find_key, list_queue,
                  list_running, quota, registers, request, request_info, rows, run, set_limit, shutdown, statistics,
                  status)

GREATEST = 4294967295
WAITS = [0, 80]


class ListRunning(TalkCase):
    def test_none_one_and_eight(self):
        self.check((create(), 0), (list_running(), 0))
        calls = [create(limit=8), add_method(0, 0, WAITS), add_client()]
        for count in range(1, 9):
            calls += [request()]
            self.check(*rows(calls), (list_running(), count, *range(count)))

    def test_queued_finished_and_dropped_ones_are_left_out(self):
        self.check(
            (create(limit=2), 0), (add_method(0, 0, WAITS), 0), (add_method(0, 0, []), 1), (add_client(), 0),
            (request(method=1), 0, 1), (request(), 1, 0), (request(), 2, 0), (request(), 3, 0), (request(), 4, 0),
            (list_running(), 2, 1, 2), (cancel(3), 0), (list_running(), 2, 1, 2), (list_queue(), 1, 4),
            (cancel(1), 0), (list_running(), 2, 2, 4), (list_queue(), 0), (advance(80), 2, 80), (list_running(), 0),
        )

    def test_in_increasing_order_whichever_started_first(self):
        self.check(
            (create(limit=2, discipline=2), 0), (add_method(0, 0, WAITS), 0), (add_method(0, 0, [0, 10]), 1), (add_client(), 0),
            (request(method=1), 0, 0), (request(), 1, 0), (request(), 2, 0), (request(), 3, 0), (request(), 4, 0),
            (run(1), 10), (list_running(), 2, 1, 4),
            (run(1), 80), (list_running(), 2, 3, 4), (list_queue(), 1, 2),
            (execution_info(3), 0, 0, 0, 1, 160, 80, 0, 1, 1, 0), (execution_info(4), 0, 0, 0, 1, 90, 10, 0, 1, 1, 0),
        )


class Registers(TalkCase):
    def test_they_contain_0_at_first_and_what_was_added_behind_that(self):
        rows_of_all = [(create(), 0), (registers(), 4, 0, 0, 0, 0), (add_client(), 0)]
        held = [0, 0, 0, 0]
        for number in range(4):
            held[number] = 1000 + number
            rows_of_all += [(add_method(0, 0, [3, number]), number),
                            (request(method=number, payload=[1000, number]), number, 1), (registers(), 4, *held)]
        self.check(*rows_of_all)

    def test_telling_them_changes_nothing(self):
        self.check(
            (create(), 0), (add_method(0, 0, [3, 2, 0, 5, 3, 2]), 0), (add_client(), 0), (request(payload=[7]), 0, 0),
            (registers(), 4, 0, 0, 7, 0), (registers(), 4, 0, 0, 7, 0), (advance(5), 1, 5), (registers(), 4, 0, 0, 14, 0),
        )

    def test_a_new_server_has_its_own(self):
        self.check(
            (create(), 0), (add_method(0, 0, [3, 2]), 0), (add_client(), 0), (request(payload=[7]), 0, 1),
            (registers(), 4, 0, 0, 7, 0), (create(limit=0), -22), (registers(), 4, 0, 0, 7, 0),
            (create(), 0), (registers(), 4, 0, 0, 0, 0),
        )


class Quota(TalkCase):
    def test_behind_spendings_and_waits(self):
        self.check(
            (create(), 0),
            (add_method(2, 0, []), 0),
            (add_client(capacity=5, refill=300), 0),
            (add_client(capacity=5, refill=300), 1),
            (quota(0), 5000, 5, 300),
            (request(), 0, 1),
            (quota(0), 3000, 5, 300),
            (quota(1), 5000, 5, 300),
            (advance(1), 0, 1),
            (quota(0), 3300, 5, 300),
            (request(), 1, 1),
            (quota(0), 1300, 5, 300),
            (request(), 2, 9),
            (quota(0), 1300, 5, 300),
            (advance(12), 0, 13),
            (quota(0), 4900, 5, 300),
            (advance(1), 0, 14),
            (quota(0), 5000, 5, 300),
            (advance(1000000), 0, 1000014),
            (quota(0), 5000, 5, 300),
        )

    def test_capacities_and_refills_at_their_edges(self):
        self.check(
            (create(), 0), (add_client(capacity=0, refill=1000), 0), (add_client(capacity=1000, refill=0), 1),
            (quota(0), 0, 0, 1000), (quota(1), 1000000, 1000, 0), (advance(9), 0, 9), (quota(0), 0, 0, 1000),
            (add_client(capacity=3, refill=1), 2), (quota(2), 3000, 3, 1), (advance(9), 0, 18), (quota(2), 3000, 3, 1),
        )

    def test_it_counts_while_events_happen(self):
        self.check(
            (create(), 0), (add_method(3, 0, WAITS), 0), (add_client(capacity=4, refill=10), 0), (request(), 0, 0),
            (quota(0), 1000, 4, 10), (run(1), 80), (quota(0), 1800, 4, 10),
        )

    def test_what_is_kept_out_or_joined_pays_nothing(self):
        self.check(
            (create(queue_limit=0), 0), (add_method(1, 1, WAITS), 0), (add_client(roles=1, capacity=4), 0),
            (add_client(roles=0, capacity=4), 1), (request(key=5), 0, 0), (quota(0), 3000, 4, 0),
            (request(key=5), 1, 0), (request(key=5, payload=[1]), 2, 4), (request(token=8), 3, 17), (request(method=1), 4, 13),
            (request(), 5, 101), (quota(0), 3000, 4, 0), (request(1), 6, 8), (quota(1), 4000, 4, 0),
            (cancel(0), 0), (cancel(1), 0), (quota(0), 3000, 4, 0), (shutdown(0), 1, 0), (request(), 7, 101),
            (quota(0), 3000, 4, 0),
        )

    def test_the_client_must_exist(self):
        self.check((create(), 0), (quota(0), -2), (add_client(), 0), (quota(0), 1000000, 1000, 0), (quota(1), -2),
                   (quota(GREATEST), -2))


class FindKey(TalkCase):
    started = [create(lifetime=100), add_method(0, 0, [0, 80, 1, 3]), add_client(), add_client(), request()]

    def test_queued_running_and_finished(self):
        self.check(
            *rows(self.started),
            (find_key(0, 5), -33),
            (request(key=5), 1, 0),
            (find_key(0, 5), 1, 0, 0),
            (advance(80), 1, 80),
            (find_key(0, 5), 1, 1, 160),
            (advance(79), 0, 159),
            (find_key(0, 5), 1, 1, 160),
            (advance(1), 1, 160),
            (find_key(0, 5), 1, 2, 0),
            (advance(99), 0, 259),
            (find_key(0, 5), 1, 2, 0),
            (advance(1), 0, 260),
            (find_key(0, 5), -33),
            (advance(500), 0, 760),
            (find_key(0, 5), -33),
        )

    def test_its_value_is_the_status_once_it_is_finished(self):
        for ending in (1, 7, 16):
            self.check(
                (create(lifetime=9), 0), (add_method(0, 0, [4, ending]), 0), (add_client(), 0), (advance(3), 0, 3),
                (request(key=5), 0, ending + 1), (find_key(0, 5), 0, 2, ending), (advance(8), 0, 11),
                (find_key(0, 5), 0, 2, ending), (advance(1), 0, 12), (find_key(0, 5), -33),
            )

    def test_lifetime_0(self):
        self.check(
            (create(lifetime=0), 0), (add_method(0, 0, WAITS), 0), (add_client(), 0), (request(key=5), 0, 0),
            (find_key(0, 5), 0, 1, 80), (advance(80), 1, 80), (find_key(0, 5), -33),
        )

    def test_a_dropped_one_is_not_there(self):
        self.check(*rows(self.started), (request(key=5), 1, 0), (cancel(1), 0), (find_key(0, 5), -33),
                   (request(key=5, payload=[1]), 2, 0), (find_key(0, 5), 2, 0, 0))

    def test_an_abandoned_one_that_goes_on_is_there(self):
        self.check((create(), 0), (add_method(0, 0, WAITS), 0), (add_client(), 0), (request(key=5), 0, 0), (cancel(0), 0),
                   (find_key(0, 5), 0, 1, 80), (advance(80), 1, 80), (find_key(0, 5), 0, 2, 0))

    def test_the_last_one_of_several(self):
        self.check(
            (create(lifetime=10), 0), (add_method(0, 0, [4, 9]), 0), (add_method(0, 0, []), 1), (add_client(), 0),
            (request(key=5), 0, 10), (advance(10), 0, 10), (request(method=1, key=5), 1, 1), (find_key(0, 5), 1, 2, 0),
            (request(key=5), 2, 4), (find_key(0, 5), 1, 2, 0),
        )

    def test_the_key_0_is_no_key(self):
        self.check(
            (create(limit=1), 0), (add_method(0, 0, WAITS), 0), (add_client(), 0), (find_key(0, 0), -33),
            (request(), 0, 0), (request(), 1, 0), (find_key(0, 0), -33), (advance(90), 1, 90), (find_key(0, 0), -33),
        )

    def test_other_clients_and_keys_have_their_own(self):
        self.check(
            *rows(self.started),
            (request(0, key=5), 1, 0),
            (find_key(1, 5), -33),
            (find_key(0, 6), -33),
            (request(1, key=5), 2, 0),
            (request(1, key=GREATEST), 3, 0),
            (find_key(0, 5), 1, 0, 0),
            (find_key(1, 5), 2, 0, 0),
            (find_key(1, GREATEST), 3, 0, 0),
            (find_key(0, GREATEST), -33),
        )

    def test_what_a_shutdown_stopped_is_finished_and_what_it_dropped_is_not_there(self):
        self.check(
            (create(lifetime=10), 0), (add_method(0, 0, WAITS), 0), (add_client(), 0), (request(key=5), 0, 0),
            (request(key=6), 1, 0), (advance(7), 0, 7), (shutdown(0), 1, 1), (find_key(0, 5), 0, 2, 1), (find_key(0, 6), -33),
            (advance(9), 0, 16), (find_key(0, 5), 0, 2, 1), (advance(1), 0, 17), (find_key(0, 5), -33),
        )

    def test_the_client_must_exist_and_that_comes_first(self):
        self.check((create(), 0), (find_key(0, 5), -2), (add_client(), 0), (find_key(0, 5), -33), (find_key(1, 5), -2),
                   (find_key(1, 0), -2), (find_key(GREATEST, GREATEST), -2))


class Estimate(TalkCase):
    def test_without_a_free_slot_and_with_one(self):
        self.check(
            (create(limit=2), 0),
            (add_method(0, 0, [0, 100]), 0),
            (add_client(), 0),
            (estimate(), 0, 0),
            (request(), 0, 0),
            (request(), 1, 0),
            (request(), 2, 0),
            (estimate(), 0, 0),
            (advance(100), 2, 100),
            # 100, then 100 - 12 + 100; one runs.
            (estimate(), 0, 188),
            (request(), 3, 0),
            (estimate(), 23 // 2, 188),
            (request(), 4, 0),
            (estimate(), 2 * 23 // 2, 188),
            (request(), 5, 0),
            (estimate(), 3 * 23 // 2, 188),
            (cancel(3), 0),
            (estimate(), 2 * 23 // 2, 188),
            (cancel(4), 0),
            (cancel(5), 0),
            (estimate(), 0, 188),
        )

    def test_it_is_the_retry_delay_of_a_refused_request(self):
        calls = [create(queue_limit=3), add_method(0, 0, [0, 87]), add_client(), request(), advance(87)] + [request()] * 4
        self.check(*rows(calls), (estimate(), 40, 87), (request(), 5, 101), (request_info(5), 101, 0, 87, 1087, 0, 0, 87, 40))

    def test_it_changes_nothing(self):
        calls = [create(), add_method(0, 0, [0, 100]), add_client(), request(), advance(100), request(), request()]
        self.check(*rows(calls), (estimate(), 24, 100), (estimate(), 24, 100), (advance(100), 1, 200), (estimate(), 23, 188))


class Totals(TalkCase):
    """statistics and status."""

    def test_an_empty_server(self):
        self.check((create(), 0), (statistics(), 0, 0, 0, 0, 0, 0, 0), (status(), 0, 0, 0, 0, 0, 0))

    def test_behind_a_longer_run(self):
        self.check(
            (create(limit=2, queue_limit=2), 0),
            (add_method(1, 1, [0, 50]), 0),
            (add_method(0, 0, []), 1),
            (add_method(0, 0, [4, 4]), 2),
            (add_client(roles=1, capacity=6), 0),
            (status(), 0, 0, 0, 0, 3, 1),
            (add_client(roles=0), 1),
            (status(), 0, 0, 0, 0, 3, 2),
            (request(method=1, key=8), 0, 1),
            (statistics(), 1, 1, 0, 0, 0, 0, 1),
            # A join of a result, and one with another payload, which joins nothing.
            (request(method=1, key=8), 1, 1),
            (request(method=1, key=8, payload=[1]), 2, 4),
            (statistics(), 3, 2, 0, 0, 0, 1, 1),
            # A status 4 of a program's own counts like one of a deadline.
            (request(method=2), 3, 5),
            (statistics(), 4, 2, 0, 1, 0, 1, 2),
            (request(key=5), 4, 0),
            (request(key=5), 5, 0),
            (request(timeout=20), 6, 0),
            (request(timeout=10), 7, 0),
            (request(), 8, 0),
            (statistics(), 9, 2, 0, 1, 5, 2, 6),
            (status(), 0, 2, 2, 0, 3, 2),
            (request(), 9, 101),
            (request(token=9), 10, 17),
            (request(1), 11, 8),
            (statistics(), 12, 2, 1, 1, 5, 2, 6),
            (advance(10), 1, 10),
            (statistics(), 12, 2, 1, 2, 4, 2, 6),
            (status(), 10, 2, 1, 0, 3, 2),
            (advance(10), 1, 20),
            (statistics(), 12, 2, 1, 3, 3, 2, 6),
            (status(), 20, 2, 0, 0, 3, 2),
            (cancel(8), 0),
            (statistics(), 12, 2, 1, 3, 2, 2, 6),
            (status(), 20, 1, 0, 0, 3, 2),
            (advance(30), 1, 50),
            (statistics(), 12, 4, 1, 3, 0, 2, 6),
            (status(), 50, 0, 0, 0, 3, 2),
            (request(), 12, 0),
            (statistics(), 13, 4, 1, 3, 1, 2, 7),
            (shutdown(30), 1, 0),
            (status(), 50, 1, 0, 1, 3, 2),
            (request(), 13, 101),
            (statistics(), 14, 4, 2, 3, 1, 2, 7),
            (advance(100), 1, 150),
            (statistics(), 14, 4, 2, 3, 0, 2, 7),
            (status(), 150, 0, 0, 1, 3, 2),
        )

    def test_what_is_refused_as_a_call_is_not_counted(self):
        self.check((create(), 0), (add_client(), 0), (request(1), -2), (request(timeout=0), -22), (add_method(101, 0, []), -22),
                   (add_client(roles=16), -22), (statistics(), 0, 0, 0, 0, 0, 0, 0), (status(), 0, 0, 0, 0, 0, 1))

    def test_status_with_a_smaller_limit(self):
        calls = [create(limit=3), add_method(0, 0, WAITS), add_client()] + [request()] * 5
        self.check(*rows(calls), (status(), 0, 3, 2, 0, 1, 1), (set_limit(1), 3), (status(), 0, 3, 2, 0, 1, 1))

    def test_a_new_server_begins_anew(self):
        calls = [create(), add_method(0, 0, WAITS), add_client(), request(), advance(80), request(), shutdown(9)]
        self.check(*rows(calls), (status(), 80, 1, 0, 1, 1, 1), (estimate(), 10, 80), (create(), 0), (status(), 0, 0, 0, 0, 0, 0),
                   (statistics(), 0, 0, 0, 0, 0, 0, 0), (estimate(), 0, 0))
