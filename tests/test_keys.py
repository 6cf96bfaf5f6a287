"""Shared executions: which one a request with a key joins, and until when a result is kept."""

from talk import (TalkCase, add_client, add_method, advance, cancel, create, execution_info, list_queue, request,
                  request_info, response, run)

WAITS = [0, 80, 3, 0]


class Joining(TalkCase):
    def test_a_queued_execution(self):
        self.check(
            (create(), 0),
            (add_method(0, 0, WAITS), 0),
            (add_client(), 0),
            (request(), 0, 0),
            (request(key=5, payload=[4]), 1, 0),
            (advance(10), 0, 10),
            (request(key=5, payload=[4]), 2, 0),
            (request_info(2), 0, 0, 10, 1010, 2, 1, 0, 0),
            (execution_info(1), 0, 5, 0, 0, 0, 0, 0, 0, 2, 0),
            (list_queue(), 1, 1),
            (advance(150), 2, 160),
            (request_info(1), 1, 0, 0, 1000, 2, 0, 160, 0),
            (request_info(2), 1, 0, 10, 1010, 2, 1, 160, 0),
            (response(1), 1, 4),
            (response(2), 1, 4),
            (execution_info(1), 0, 5, 0, 2, 0, 80, 160, 2, 0, 1),
        )

    def test_a_running_execution(self):
        self.check(
            (create(), 0),
            (add_method(0, 0, WAITS), 0),
            (add_client(), 0),
            (request(key=5, payload=[4]), 0, 0),
            (advance(79), 0, 79),
            (request(key=5, payload=[4]), 1, 0),
            (execution_info(0), 0, 5, 0, 1, 80, 0, 0, 1, 2, 0),
            (advance(1), 1, 80),
            (request_info(0), 1, 0, 0, 1000, 1, 0, 80, 0),
            (request_info(1), 1, 0, 79, 1079, 1, 1, 80, 0),
            (response(1), 1, 4),
            (execution_info(1), -2),
        )

    def test_a_finished_execution_gives_its_status_at_once(self):
        for status in (1, 3, 4, 8, 16):
            self.check(
                (create(), 0),
                (add_method(0, 0, [1, 2, 4, status]), 0),
                (add_client(), 0),
                (request(key=5), 0, status + 1),
                (advance(10), 0, 10),
                (request(key=5), 1, status + 1),
                (request_info(1), status + 1, 0, 10, 1010, 1, 1, 10, 0),
                (execution_info(0), 0, 5, 0, 2, status, 0, 0, 2, 0, 1),
                (execution_info(1), -2),
                (response(1), -33),
            )

    def test_its_effects_come_once(self):
        self.check(
            (create(), 0), (add_method(1, 0, [3, 0]), 0), (add_client(capacity=1, refill=0), 0),
            (request(key=5, payload=[4]), 0, 1), (request(key=5, payload=[4]), 1, 1), (request(key=5, payload=[4]), 2, 1),
            (response(0), 1, 4), (response(1), 1, 4), (response(2), 1, 4), (request(key=6, payload=[4]), 3, 9),
        )

    def test_other_clients_and_keys_have_their_own(self):
        self.check(
            (create(limit=8), 0),
            (add_method(0, 0, WAITS), 0),
            (add_client(), 0),
            (add_client(), 1),
            (request(0, key=5), 0, 0),
            (request(1, key=5), 1, 0),
            (request(0, key=6), 2, 0),
            (request(1, key=5), 3, 0),
            (request(0, key=5), 4, 0),
            (request_info(1), 0, 1, 0, 1000, 2, 0, 0, 0),
            (request_info(2), 0, 0, 0, 1000, 3, 0, 0, 0),
            (request_info(3), 0, 1, 0, 1000, 2, 1, 0, 0),
            (request_info(4), 0, 0, 0, 1000, 1, 1, 0, 0),
        )

    def test_a_dropped_execution_is_not_joined(self):
        self.check(
            (create(), 0),
            (add_method(0, 0, WAITS), 0),
            (add_client(), 0),
            (request(), 0, 0),
            (request(key=5, payload=[1]), 1, 0),
            (cancel(1), 0),
            (request(key=5, payload=[2]), 2, 0),
            (request_info(2), 0, 0, 0, 1000, 3, 0, 0, 0),
            (execution_info(1), 0, 5, 0, 3, 0, 0, 0, 0, 0, 0),
            (list_queue(), 1, 2),
        )


class Lifetime(TalkCase):
    def check_kept(self, lifetime, behind_end, kept):
        """Whether the result of an execution that ended at 80 is there this long behind its end."""
        self.check(
            (create(lifetime=lifetime), 0),
            (add_method(0, 0, WAITS), 0),
            (add_client(), 0),
            (request(key=5, payload=[4]), 0, 0),
            (advance(80), 1, 80),
            (advance(behind_end), 0, 80 + behind_end),
            (request(key=5, payload=[4]), 1, 1 if kept else 0),
            (request_info(1),) if kept else (request_info(1), 0, 0, 80 + behind_end, 1080 + behind_end, 2, 0, 0, 0),
            (request(key=5, payload=[3]), 2, 4),
        )

    def test_the_last_millisecond_and_the_first_behind_it(self):
        for lifetime in (1, 2, 1000, 100000):
            self.check_kept(lifetime, 0, True)
            self.check_kept(lifetime, lifetime - 1, True)
            self.check_kept(lifetime, lifetime, False)
            self.check_kept(lifetime, lifetime + 1, False)

    def test_lifetime_0_keeps_no_result(self):
        self.check_kept(0, 0, False)
        self.check_kept(0, 1, False)

    def test_lifetime_0_still_shares_what_is_queued_or_running(self):
        self.check(
            (create(lifetime=0), 0), (add_method(0, 0, WAITS), 0), (add_client(), 0),
            (request(key=5), 0, 0), (request(key=5), 1, 0), (request(key=6), 2, 0), (request(key=6), 3, 0),
            (request_info(1), 0, 0, 0, 1000, 1, 1, 0, 0), (request_info(3), 0, 0, 0, 1000, 2, 1, 0, 0),
        )

    def test_it_counts_from_the_end_of_the_execution_and_not_from_a_join(self):
        self.check(
            (create(lifetime=100), 0), (add_method(0, 0, WAITS), 0), (add_client(), 0),
            (request(key=5), 0, 0), (advance(150), 1, 150), (request(key=5), 1, 1), (advance(29), 0, 179),
            (request(key=5), 2, 1), (advance(1), 0, 180), (request(key=5), 3, 0),
            (request_info(3), 0, 0, 180, 1180, 2, 0, 0, 0),
        )

    def test_a_queued_or_running_execution_has_no_such_end(self):
        self.check(
            (create(lifetime=10), 0), (add_method(0, 0, [0, 5000]), 0), (add_client(), 0),
            (request(timeout=90000), 0, 0), (request(key=5, timeout=90000), 1, 0), (advance(4999), 0, 4999),
            (request(key=5), 2, 0), (advance(1), 1, 5000), (advance(900), 0, 5900), (request(key=5), 3, 0),
            (request_info(2), 0, 0, 4999, 5999, 2, 1, 0, 0), (request_info(3), 0, 0, 5900, 6900, 2, 1, 0, 0),
        )

    def test_the_last_execution_of_several_counts(self):
        self.check(
            (create(lifetime=10), 0),
            (add_method(0, 0, [3, 0]), 0),
            (add_client(), 0),
            (request(key=5, payload=[1]), 0, 1),
            (advance(10), 0, 10),
            (request(key=5, payload=[2]), 1, 1),
            (advance(9), 0, 19),
            (request(key=5, payload=[1]), 2, 4),
            (request(key=5, payload=[2]), 3, 1),
            (response(3), 1, 3),
            (request_info(3), 1, 0, 19, 1019, 2, 1, 19, 0),
            (advance(1), 0, 20),
            (request(key=5, payload=[1]), 4, 1),
            (response(4), 1, 4),
            (run(1), 20),
        )
