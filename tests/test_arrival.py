"""The arrival of a request: each of the points 1 to 9, also where a later one would decide otherwise."""

from talk import (TalkCase, add_client, add_method, advance, cancel, create, execution_info, list_queue, quota, replies,
                  request, request_info, rows, run, shutdown)

WAITS = [0, 80]


class AfterShutdown(TalkCase):
    """Point 1."""

    busy = [create(limit=1), add_method(0, 1, WAITS), add_client(roles=1), add_client(roles=0), request(key=5)]

    def test_every_request_is_refused(self):
        for grace in (0, 70):
            self.check(
                *rows(self.busy), (shutdown(grace), 1, 0), (request(timeout=9), 1, 101), (advance(3), 0, 3),
                (request(timeout=9), 2, 101), (request_info(1), 101, 0, 0, 9, 0, 0, 0, 0),
                (request_info(2), 101, 0, 3, 12, 0, 0, 3, 0), (execution_info(1), -2), (quota(0), 1000000, 1000, 0),
            )

    def test_ahead_of_the_other_points(self):
        for grace in (0, 70):
            self.check(
                *rows(self.busy), (shutdown(grace), 1, 0), (request(token=8), 1, 101), (request(method=1), 2, 101),
                (request(client=1), 3, 101), (request(key=5), 4, 101), (request(key=5, payload=[1]), 5, 101),
                (request_info(4), 101, 0, 0, 1000, 0, 0, 0, 0),
            )

    def test_ahead_of_quota_full_queue_and_shedding(self):
        for limit in (1, 2):
            calls = [create(limit=limit, queue_limit=0, shedding=1), add_method(1, 0, WAITS), add_client(capacity=2, refill=1),
                     request(), advance(80), request()]
            self.check(*rows(calls), (shutdown(70), 1, 0), (request(timeout=1), 2, 101),
                       (request_info(2), 101, 0, 80, 81, 0, 0, 80, 0))

    def test_wrong_arguments_are_still_errors(self):
        for grace in (0, 70):
            self.check(*rows(self.busy), (shutdown(grace), 1, 0), (request(client=2), -2), (request(timeout=0), -22),
                       (request(payload=[1001]), -22), (request(), 1, 101))


class Points(TalkCase):
    def test_2_the_token(self):
        self.check(
            (create(limit=8), 0),
            (add_method(0, 0, WAITS), 0),
            (add_client(token=7), 0),
            (add_client(token=8), 1),
            (request(0, 7), 0, 0),
            (request(1, 8), 1, 0),
            (request(0, 8), 2, 17),
            (request(1, 7), 3, 17),
            (request(0, 6), 4, 17),
            (request_info(2), 17, 0, 0, 1000, 0, 0, 0, 0),
        )

    def test_2_ahead_of_the_later_points(self):
        self.check(
            (create(limit=1, queue_limit=0), 0),
            (add_method(0, 0, WAITS), 0),
            (add_method(9, 1, WAITS), 1),
            (add_method(9, 0, WAITS), 2),
            (add_client(roles=0, capacity=1), 0),
            (request(method=0, key=5), 0, 0),
            (request(token=8, method=3), 1, 17),
            (request(token=8, method=1), 2, 17),
            (request(token=8, key=5), 3, 17),
            (request(token=8, key=5, payload=[1]), 4, 17),
            (request(token=8, method=2), 5, 17),
            (request(token=8, method=0), 6, 17),
            (request_info(6), 17, 0, 0, 1000, 0, 0, 0, 0),
        )

    def test_3_the_method(self):
        self.check(
            (create(), 0),
            (add_client(roles=0), 0),
            (request(method=0), 0, 13),
            (add_method(0, 0, []), 0),
            (request(method=0), 1, 1),
            (request(method=1), 2, 13),
            (request_info(2), 13, 0, 0, 1000, 0, 0, 0, 0),
        )

    def test_3_ahead_of_the_later_points(self):
        self.check(
            (create(limit=1, queue_limit=0), 0),
            (add_method(0, 0, WAITS), 0),
            (add_client(roles=0, capacity=0), 0),
            (request(key=5), 0, 0),
            (request(method=1), 1, 13),
            (request(method=1, key=5), 2, 13),
            (request_info(2), 13, 0, 0, 1000, 0, 0, 0, 0),
        )

    def test_4_every_required_role(self):
        for required in range(16):
            steps = [(create(limit=8), 0), (add_method(0, required, []), 0)]
            for client in range(8):
                held = (client * 5 + required) % 16
                steps.append((add_client(roles=held), client))
                has_all = all(held // bit % 2 == 1 for bit in (1, 2, 4, 8) if required // bit % 2 == 1)
                steps.append((request(client), client, 1 if has_all else 8))
            self.check(*steps)
        self.check(
            (create(), 0),
            (add_method(0, 5, []), 0),
            (add_client(roles=1), 0),
            (add_client(roles=4), 1),
            (add_client(roles=10), 2),
            (add_client(roles=5), 3),
            (add_client(roles=13), 4),
            (request(0), 0, 8),
            (request(1), 1, 8),
            (request(2), 2, 8),
            (request(3), 3, 1),
            (request(4), 4, 1),
            (request_info(2), 8, 2, 0, 1000, 0, 0, 0, 0),
        )

    def test_4_ahead_of_the_later_points(self):
        self.check(
            (create(limit=1, queue_limit=0), 0),
            (add_method(0, 0, WAITS), 0),
            (add_method(9, 2, WAITS), 1),
            (add_client(roles=1, capacity=1), 0),
            (request(key=5), 0, 0),
            # Point 5 would give 3, as the method is a different one, point 6 would give 8, point 7 100.
            (request(method=1, key=5), 1, 8),
            (request(method=1), 2, 8),
            (request_info(2), 8, 0, 0, 1000, 0, 0, 0, 0),
        )

    def test_4_a_called_method_asks_for_no_role(self):
        self.check(
            (create(), 0), (add_method(100, 15, [1, 3]), 0), (add_method(0, 0, [5, 0]), 1),
            (add_client(roles=0, capacity=0), 0), (request(method=1), 0, 1), (request(method=0), 1, 8),
        )

    def test_5_another_method_or_payload(self):
        self.check(
            (create(), 0),
            (add_method(0, 0, WAITS), 0),
            (add_method(0, 0, WAITS), 1),
            (add_client(), 0),
            (request(key=5, payload=[3, 4]), 0, 0),
            (request(key=5, payload=[3, 4]), 1, 0),
            (request(key=5, payload=[3]), 2, 4),
            (request(key=5, payload=[4, 3]), 3, 4),
            (request(key=5, payload=[3, 4, 0]), 4, 4),
            (request(key=5, payload=[]), 5, 4),
            (request(method=1, key=5, payload=[3, 4]), 6, 4),
            (request(method=1, key=5, payload=[3]), 7, 4),
            (request(key=6, payload=[3]), 8, 0),
            (request_info(1), 0, 0, 0, 1000, 1, 1, 0, 0),
            (request_info(2), 4, 0, 0, 1000, 0, 0, 0, 0),
            (request_info(6), 4, 0, 0, 1000, 0, 0, 0, 0),
            (execution_info(0), 0, 5, 0, 1, 80, 0, 0, 1, 2, 0),
        )

    def test_5_ahead_of_the_later_points(self):
        self.check(
            (create(limit=1, queue_limit=1, shedding=1), 0),
            (add_method(1, 0, WAITS), 0),
            (add_client(capacity=3), 0),
            (add_client(token=9), 1),
            (request(), 0, 0),
            (advance(80), 1, 80),
            # The average is 80 now, so the estimated wait is 10 with nothing queued and 20 with one queued.
            (request(key=5), 1, 0),
            (request(timeout=90), 2, 0),
            # The quota is 0, the queue is full and the timeout is less than the wait.
            (request(key=5, timeout=1), 3, 0),
            (request(key=5, timeout=1, payload=[1]), 4, 4),
            (request(timeout=1), 5, 9),
            (request_info(3), 0, 0, 80, 81, 2, 1, 0, 0),
            (request_info(4), 4, 0, 80, 81, 0, 0, 80, 0),
            (request(1, 9, timeout=1), 6, 101),
        )

    def test_5_key_0_is_no_key(self):
        self.check(
            (create(limit=2), 0), (add_method(0, 0, WAITS), 0), (add_client(), 0),
            (request(key=0), 0, 0), (request(key=0), 1, 0), (request(key=0, payload=[1]), 2, 0),
            (request_info(1), 0, 0, 0, 1000, 2, 0, 0, 0),
        )

    def test_6_the_quota(self):
        self.check(
            (create(), 0),
            (add_method(3, 0, []), 0),
            (add_client(capacity=8, refill=7), 0),
            (request(), 0, 1),
            (request(), 1, 1),
            (request(), 2, 9),
            (request_info(2), 9, 0, 0, 1000, 0, 0, 0, 143),
        )

    def test_6_ahead_of_the_later_points(self):
        self.check(
            (create(limit=1, queue_limit=0, shedding=1), 0),
            (add_method(1, 0, WAITS), 0),
            (add_client(capacity=2, refill=10), 0),
            (request(), 0, 0),
            (advance(80), 1, 80),
            (request(), 1, 0),
            # Full and to be shed as well: the wait would be 10.
            (request(timeout=1), 2, 9),
            (request_info(2), 9, 0, 80, 81, 0, 0, 80, 20),
        )
        self.check(
            (create(limit=1, queue_limit=9, shedding=1), 0),
            (add_method(1, 0, WAITS), 0),
            (add_client(capacity=2, refill=0), 0),
            (request(), 0, 0),
            (advance(80), 1, 80),
            (request(), 1, 0),
            (request(timeout=1), 2, 9),
            (request_info(2), 9, 0, 80, 81, 0, 0, 80, 0),
        )

    def test_7_slots_and_queue_full(self):
        for limit in (1, 2, 8):
            for queue_limit in (0, 1, 3, 16):
                steps = [(create(limit=limit, queue_limit=queue_limit), 0), (add_method(0, 0, WAITS), 0), (add_client(), 0)]
                taken = limit + queue_limit
                steps += [(request(), number, 0) for number in range(taken)]
                steps += [(request(), taken, 101), (request(), taken + 1, 101)]
                steps += [(request_info(taken), 101, 0, 0, 1000, 0, 0, 0, 0)]
                steps += [(cancel(0), 0), (request(), taken + 2, 0), (request(), taken + 3, 101)]
                self.check(*steps)

    def test_7_without_shedding_whatever_the_timeout(self):
        self.check(
            (create(limit=1, queue_limit=1, shedding=0), 0),
            (add_method(0, 0, WAITS), 0),
            (add_client(), 0),
            (request(), 0, 0),
            (advance(80), 1, 80),
            (request(), 1, 0),
            (request(timeout=1), 2, 0),
            (request(timeout=100000), 3, 101),
            (request_info(3), 101, 0, 80, 100080, 0, 0, 80, 20),
        )

    def test_7_ahead_of_the_later_points(self):
        # Point 8 would let this one in: its timeout is greater than the wait.
        self.check(
            (create(limit=1, queue_limit=0, shedding=1), 0),
            (add_method(1, 0, WAITS), 0),
            (add_client(capacity=3, refill=0), 0),
            (request(), 0, 0),
            (advance(80), 1, 80),
            (request(), 1, 0),
            (request(timeout=11), 2, 101),
            (request_info(2), 101, 0, 80, 91, 0, 0, 80, 10),
            # Refused with 100, it paid nothing.
            (advance(80), 1, 160),
            (request(), 3, 0),
            (request(), 4, 9),
        )

    def test_8_shedding(self):
        self.check(
            (create(limit=1, queue_limit=16, shedding=1), 0),
            (add_method(1, 0, WAITS), 0),
            (add_client(capacity=5, refill=0), 0),
            (request(timeout=81), 0, 0),
            (advance(80), 1, 80),
            # A slot is free: the estimated wait is 0.
            (request(timeout=1), 1, 0),
            (cancel(1), 0),
            (request(), 2, 0),
            (request(timeout=10), 3, 101),
            (request(timeout=11), 4, 0),
            (request(timeout=20), 5, 101),
            (request(timeout=21), 6, 0),
            (request_info(3), 101, 0, 80, 90, 0, 0, 80, 10),
            (request_info(5), 101, 0, 80, 100, 0, 0, 80, 20),
            (list_queue(), 2, 3, 4),
            # Five were paid for; the ones that were shed weren't.
            (request(timeout=100), 7, 9),
        )

    def test_9_a_new_execution_is_paid_for_and_queued(self):
        self.check(
            (create(limit=1), 0),
            (add_method(2, 0, WAITS), 0),
            (add_client(capacity=5, refill=0), 0),
            (request(key=3, payload=[1, 2]), 0, 0),
            (request(payload=[4]), 1, 0),
            (request(), 2, 9),
            (execution_info(0), 0, 3, 0, 1, 80, 0, 0, 1, 1, 0),
            (execution_info(1), 0, 0, 0, 0, 0, 0, 0, 0, 1, 0),
            (execution_info(2), -2),
            (request_info(1), 0, 0, 0, 1000, 2, 0, 0, 0),
        )

    def test_kept_out_requests_pay_nothing_and_leave_no_execution(self):
        calls = [
            create(limit=1), add_method(1, 0, [6, 0]), add_method(1, 8, [3, 0]), add_client(roles=0, capacity=2, refill=0),
            request(key=5), request(token=6), request(method=2), request(method=1), request(key=5, payload=[1]),
            execution_info(1), request(), request(), run(9),
        ]
        self.assertEqual(replies(calls)[4:], [
            [0, 1], [1, 17], [2, 13], [3, 8], [4, 4], [-2], [5, 1], [6, 9], [0],
        ])
