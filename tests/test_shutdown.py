"""shutdown: its answer and errors, what goes on in the grace period, and what its end does."""

from talk import (TalkCase, add_client, add_method, advance, cancel, create, estimate, execution_info, find_key, list_queue,
                  list_running, next_event, preview, quota, registers, replies, request, request_info, response, rows, run,
                  set_limit, set_roles, shutdown, statistics, status, view)

GREATEST = 4294967295

# Requests 0 and 1 run until 80, the second with the key 5, which request 2 shares; 3 and 4 are queued, 4 with the key 6.
BUSY = [
    create(limit=2), add_method(0, 0, [1, 3, 0, 80, 3, 1]), add_client(), add_client(token=8),
    request(payload=[2]), request(key=5), request(key=5, timeout=500), request(payload=[40]), request(key=6),
]
LATER = BUSY + [advance(10)]


class Answer(TalkCase):
    def test_the_numbers_of_running_and_queued_executions_before(self):
        self.check((create(), 0), (shutdown(0), 0, 0))
        self.check((create(), 0), (shutdown(7), 0, 0))
        for grace in (0, 1, 1000):
            for limit in (1, 2, 3, 8):
                calls = [create(limit=limit), add_method(0, 0, [0, 80]), add_client()] + [request()] * 5
                self.check(*rows(calls), (shutdown(grace), min(limit, 5), max(5 - limit, 0)))
        self.check(*rows(BUSY), (shutdown(0), 2, 2))
        self.check(*rows(BUSY), (set_limit(1), 2), (shutdown(9), 2, 2))

    def test_the_grace_at_its_edges(self):
        self.check(*rows(LATER), (shutdown(0), 2, 2), (status(), 10, 0, 0, 1, 1, 2))
        self.check(*rows(LATER), (shutdown(1), 2, 2), (next_event(), 11, 2, 0))
        calls = [create(), advance(5), shutdown(100000)]
        self.check(*rows(calls), (next_event(), 100005, 2, 0), (advance(99999), 0, 100004), (advance(1), 1, 100005))
        for grace in (100001, GREATEST):
            self.check_refused(LATER, shutdown(grace), -22, view(5, 4) + [request(), advance(1000)] + view(6, 5))

    def test_a_second_one_is_refused(self):
        for grace in (0, 30):
            for between in ([], [advance(29)], [advance(30)], [advance(500)]):
                before = LATER + [shutdown(grace)] + between
                for second in (0, 20, 100000):
                    self.check_refused(before, shutdown(second), -16, view(5, 4) + [advance(1000)] + view(5, 4))

    def test_a_grace_outside_its_limits_comes_first(self):
        for grace in (0, 30):
            before = LATER + [shutdown(grace)]
            for wrong in (100001, GREATEST):
                self.check_refused(before, shutdown(wrong), -22, view(5, 4) + [advance(1000)] + view(5, 4))

    def test_a_new_server_is_not_shut_down(self):
        for grace in (0, 30):
            self.check(
                *rows(LATER), (shutdown(grace), 2, 2), (create(limit=0), -22), (shutdown(5), -16), (create(), 0),
                (status(), 0, 0, 0, 0, 0, 0), (next_event(), -33), (add_method(0, 0, []), 0), (add_client(), 0),
                (request(), 0, 1), (shutdown(5), 0, 0), (request(), 1, 101), (next_event(), 5, 2, 0),
            )


class AtOnce(TalkCase):
    def test_everything_ends(self):
        self.check(
            *rows(LATER),
            (shutdown(0), 2, 2),
            (request_info(0), 2, 0, 0, 1000, 1, 0, 10, 0),
            (request_info(1), 2, 0, 0, 1000, 2, 0, 10, 0),
            (request_info(2), 2, 0, 0, 500, 2, 1, 10, 0),
            (request_info(3), 2, 0, 0, 1000, 3, 0, 10, 0),
            (request_info(4), 2, 0, 0, 1000, 4, 0, 10, 0),
            (execution_info(0), 0, 0, 0, 2, 1, 0, 10, 2, 0, 1),
            (execution_info(1), 0, 5, 0, 2, 1, 0, 10, 2, 0, 1),
            (execution_info(2), 0, 0, 0, 3, 0, 0, 10, 0, 0, 0),
            (execution_info(3), 0, 6, 0, 3, 0, 0, 10, 0, 0, 0),
            (list_queue(), 0),
            (list_running(), 0),
            (status(), 10, 0, 0, 1, 1, 2),
            (statistics(), 5, 0, 0, 0, 0, 1, 4),
            (response(0), -33),
            (cancel(0), -16),
            (next_event(), -33),
            (advance(1000), 0, 1010),
            (registers(), 4, 0, 0, 0, 0),
        )

    def test_an_execution_that_could_go_on_at_this_time_does_not(self):
        self.check(
            (create(), 0), (add_method(0, 0, [0, 0, 3, 0]), 0), (add_client(), 0), (request(payload=[4]), 0, 0),
            (next_event(), 0, 0, 0), (shutdown(0), 1, 0), (next_event(), -33), (request_info(0), 2, 0, 0, 1000, 1, 0, 0, 0),
            (registers(), 4, 0, 0, 0, 0),
        )

    def test_the_average_stays(self):
        calls = [create(), add_method(0, 0, [0, 80]), add_client(), request(), advance(80), request(), request(), advance(30)]
        self.check(*rows(calls), (estimate(), 20, 80), (shutdown(0), 1, 1), (estimate(), 0, 80))


class GracePeriod(TalkCase):
    def test_a_request_is_refused(self):
        for grace in (0, 30):
            self.check(
                *rows(LATER),
                (shutdown(grace), 2, 2),
                (request(), 5, 101),
                (request(key=5), 6, 101),
                (advance(40),),
                (request(key=5), 7, 101),
                (request_info(5), 101, 0, 10, 1010, 0, 0, 10, 0),
                (request_info(7), 101, 0, 50, 1050, 0, 0, 50, 0),
                (execution_info(4), -2),
                (quota(0), 1000000, 1000, 0),
            )

    def test_what_is_running_ends_and_what_is_queued_starts(self):
        self.check(
            *rows(LATER),
            (shutdown(200), 2, 2),
            (status(), 10, 2, 2, 1, 1, 2),
            (next_event(), 80, 0, 0),
            (advance(70), 2, 80),
            (response(0), 2, 3, 2),
            (response(2), 2, 3, 2),
            (list_running(), 2, 2, 3),
            (list_queue(), 0),
            # An average of 80, then 80 - 10 + 80.
            (estimate(), 150 // 8 // 2, 150),
            (advance(80), 2, 160),
            (response(3), 2, 3, 42),
            (response(4), 2, 3, 42),
            (registers(), 4, 0, 42, 0, 0),
            (next_event(), 210, 2, 0),
            (advance(1000), 1, 1160),
            (response(3), 2, 3, 42),
        )

    def test_cancels_and_deadlines(self):
        self.check(
            *rows(BUSY[:-1]),
            (request(timeout=15), 4, 0),
            (advance(10), 0, 10),
            (shutdown(30), 2, 2),
            (cancel(3), 0),
            (execution_info(2), 0, 0, 0, 3, 0, 0, 10, 0, 0, 0),
            (next_event(), 15, 1, 4),
            (advance(5), 1, 15),
            (request_info(4), 5, 0, 0, 15, 4, 0, 15, 0),
            (execution_info(3), 0, 0, 0, 3, 0, 0, 15, 0, 0, 0),
            (cancel(0), 0),
            (execution_info(0), 0, 0, 0, 2, 1, 0, 15, 2, 0, 1),
            (cancel(1), 0),
            (cancel(2), 0),
            # With its key it still goes on, till the end of the grace period.
            (execution_info(1), 0, 5, 0, 1, 80, 0, 0, 2, 0, 1),
            (next_event(), 40, 2, 0),
            (advance(25), 1, 40),
            (execution_info(1), 0, 5, 0, 2, 1, 0, 40, 2, 0, 1),
            (find_key(0, 5), 1, 2, 1),
            (request_info(1), 2, 0, 0, 1000, 2, 0, 15, 0),
            (request_info(2), 2, 0, 0, 500, 2, 1, 15, 0),
        )

    def test_a_cancel_makes_room_for_what_is_queued(self):
        self.check(*rows(LATER), (shutdown(30), 2, 2), (cancel(0), 0), (list_running(), 2, 1, 2), (list_queue(), 1, 3))

    def test_limits_roles_methods_and_clients_can_still_be_changed(self):
        self.check(
            *rows(LATER), (shutdown(30), 2, 2), (set_limit(3), 2), (list_running(), 3, 0, 1, 2), (set_roles(0, 3), 15),
            (add_method(0, 0, []), 1), (add_client(), 2), (preview(), 101), (status(), 10, 3, 1, 1, 2, 3), (advance(30), 1, 40),
            (set_limit(8), 3), (list_running(), 0), (set_roles(0, 4), 3), (add_method(0, 0, []), 2), (preview(), 101),
        )


class EndOfGrace(TalkCase):
    ended = [
        (request_info(0), 2, 0, 0, 1000, 1, 0, 40, 0),
        (request_info(2), 2, 0, 0, 500, 2, 1, 40, 0),
        (request_info(3), 2, 0, 0, 1000, 3, 0, 40, 0),
        (request_info(4), 2, 0, 0, 1000, 4, 0, 40, 0),
        (execution_info(0), 0, 0, 0, 2, 1, 0, 40, 2, 0, 1),
        (execution_info(1), 0, 5, 0, 2, 1, 0, 40, 2, 0, 1),
        (execution_info(2), 0, 0, 0, 3, 0, 0, 40, 0, 0, 0),
        (execution_info(3), 0, 6, 0, 3, 0, 0, 40, 0, 0, 0),
        (statistics(), 5, 0, 0, 0, 0, 1, 4),
        (list_queue(), 0),
        (list_running(), 0),
        (registers(), 4, 0, 0, 0, 0),
        (estimate(), 0, 0),
        (next_event(), -33),
    ]

    def test_advance_ahead_of_it_to_it_and_behind_it(self):
        self.check(*rows(LATER), (shutdown(30), 2, 2), (advance(29), 0, 39), (status(), 39, 2, 2, 1, 1, 2),
                   (next_event(), 40, 2, 0), (advance(1), 1, 40), *self.ended, (status(), 40, 0, 0, 1, 1, 2))
        self.check(*rows(LATER), (shutdown(30), 2, 2), (advance(30), 1, 40), *self.ended, (advance(0), 0, 40))
        self.check(*rows(LATER), (shutdown(30), 2, 2), (advance(3000), 1, 3010), *self.ended, (advance(3000), 0, 6010))

    def test_run_to_it_and_behind_it(self):
        self.check(*rows(LATER), (shutdown(30), 2, 2), (run(0), 10), (next_event(), 40, 2, 0), (run(1), 40), *self.ended)
        self.check(*rows(LATER), (shutdown(30), 2, 2), (run(1), 40), *self.ended, (run(40), 40), *self.ended)
        self.check(*rows(LATER), (shutdown(30), 2, 2), (run(40), 40), *self.ended)

    def test_it_comes_without_anything_to_end(self):
        self.check((create(), 0), (advance(3), 0, 3), (shutdown(4), 0, 0), (next_event(), 7, 2, 0), (next_event(), 7, 2, 0),
                   (run(1), 7), (next_event(), -33), (run(5), 7), (advance(9), 0, 16))

    def test_it_comes_once(self):
        self.check(
            *rows(LATER), (shutdown(30), 2, 2), (run(1), 40), (request(), 5, 101), (shutdown(30), -16), (next_event(), -33),
            (advance(100000), 0, 100040), (run(9), 100040), (request_info(0), 2, 0, 0, 1000, 1, 0, 40, 0),
            (execution_info(2), 0, 0, 0, 3, 0, 0, 40, 0, 0, 0), (statistics(), 6, 0, 1, 0, 0, 1, 4),
            (status(), 100040, 0, 0, 1, 1, 2),
        )

    def test_stopped_executions_do_not_change_the_average(self):
        calls = [create(), add_method(0, 0, [0, 80]), add_client(), request(), advance(80), request(), request(), advance(30)]
        self.check(*rows(calls), (shutdown(40), 1, 1), (estimate(), 20, 80), (advance(40), 1, 150), (estimate(), 0, 80),
                   (advance(900), 0, 1050), (estimate(), 0, 80))

    def test_what_was_emitted_and_added_remains(self):
        self.check(
            (create(), 0), (add_method(0, 0, [3, 2, 2, 0, 0, 90, 3, 2]), 0), (add_client(), 0), (request(payload=[4, 5]), 0, 0),
            (shutdown(20), 1, 0), (run(1), 20), (execution_info(0), 0, 0, 0, 2, 1, 0, 20, 3, 0, 3),
            (registers(), 4, 0, 0, 9, 0), (advance(90), 0, 110), (registers(), 4, 0, 0, 9, 0),
        )

    def test_a_slot_that_becomes_free_starts_nothing(self):
        # Method 1 would add to the register at once, if it were started.
        self.check(
            (create(), 0), (add_method(0, 0, [0, 90]), 0), (add_method(0, 0, [3, 0]), 1), (add_client(), 0), (request(), 0, 0),
            (request(method=1, payload=[6]), 1, 0), (request(method=1, payload=[6], key=5), 2, 0), (shutdown(20), 1, 2),
            (run(1), 20), (registers(), 4, 0, 0, 0, 0), (execution_info(1), 0, 0, 1, 3, 0, 0, 20, 0, 0, 0),
            (execution_info(2), 0, 5, 1, 3, 0, 0, 20, 0, 0, 0),
        )


class EventsOfOneTime(TalkCase):
    # At 50 executions 0 and 1 go on, requests 1 and 2 reach their deadlines, and the grace period ends.
    same = [
        create(limit=2), add_method(0, 0, [0, 50, 3, 0]), add_method(0, 0, [0, 50, 3, 1, 0, 0, 3, 1, 0, 9]), add_client(),
        request(payload=[1]), request(method=1, timeout=50, payload=[20]), request(timeout=50), request(timeout=60),
        advance(20), shutdown(30),
    ]

    def test_kind_0_comes_ahead_of_1_and_that_ahead_of_2(self):
        self.check(
            *rows(self.same),
            (next_event(), 50, 0, 0),
            (run(1), 50),
            # The end of execution 0 starts execution 2.
            (request_info(0), 1, 0, 0, 1000, 1, 0, 50, 0),
            (execution_info(2), 0, 0, 0, 1, 100, 50, 0, 1, 1, 0),
            (next_event(), 50, 0, 1),
            (run(1), 50),
            # A wait of 0 ends ahead of the deadlines of its time, too.
            (next_event(), 50, 0, 1),
            (run(1), 50),
            (execution_info(1), 0, 0, 1, 1, 59, 0, 0, 5, 1, 2),
            (next_event(), 50, 1, 1),
            (run(1), 50),
            (request_info(1), 5, 0, 0, 50, 2, 0, 50, 0),
            (execution_info(1), 0, 0, 1, 2, 1, 0, 50, 5, 0, 2),
            (next_event(), 50, 1, 2),
            (run(1), 50),
            (request_info(2), 5, 0, 0, 50, 3, 0, 50, 0),
            (list_running(), 1, 3),
            (next_event(), 50, 2, 0),
            (run(1), 50),
            (request_info(3), 2, 0, 0, 60, 4, 0, 50, 0),
            (execution_info(3), 0, 0, 0, 2, 1, 50, 50, 1, 0, 0),
            (next_event(), -33),
            (registers(), 4, 1, 40, 0, 0),
        )

    def test_an_advance_over_all_of_them(self):
        self.check(*rows(self.same), (advance(29), 0, 49), (status(), 49, 2, 2, 1, 2, 1), (advance(1), 6, 50),
                   (statistics(), 4, 1, 0, 2, 0, 0, 4), (status(), 50, 0, 0, 1, 2, 1), (registers(), 4, 1, 40, 0, 0))

    def test_an_earlier_end_of_the_grace_period_comes_first(self):
        calls = self.same[:-1] + [shutdown(29)]
        self.check(*rows(calls), (next_event(), 49, 2, 0), (advance(30), 1, 50), (statistics(), 4, 0, 0, 0, 0, 0, 4),
                   (registers(), 4, 0, 0, 0, 0))

    def test_a_later_one_comes_last(self):
        calls = self.same[:-1] + [shutdown(31)]
        self.check(*rows(calls), (advance(30), 5, 50), (next_event(), 51, 2, 0), (advance(1), 1, 51),
                   (request_info(3), 2, 0, 0, 60, 4, 0, 51, 0))

    def test_calls_at_its_time_but_ahead_of_it(self):
        for between in (cancel(3), set_limit(1), request(), shutdown(9)):
            found = replies(self.same + [run(5), between, next_event(), advance(0), next_event(), status()])
            self.assertEqual(found[-4:], [[50, 2, 0], [1, 50], [-33], [50, 0, 0, 1, 2, 1]])
