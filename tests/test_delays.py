"""Quotas, retry delays, the estimated wait and the moving average it is taken from."""

from talk import TalkCase, add_client, add_method, advance, cancel, create, replies, request, request_info, run


class Quota(TalkCase):
    def check_delay(self, capacity, refill, spent, cost, behind, delay):
        """A client that spent so much asks for this cost so long behind that; None: it is let in."""
        calls = [create(limit=8), add_method(spent, 0, []), add_method(cost, 0, []),
                 add_client(capacity=capacity, refill=refill), request(), advance(behind), request(method=1), request_info(1)]
        found = replies(calls)
        self.assertEqual(found[4], [0, 1])
        if delay is None:
            self.assertEqual(found[-2], [1, 1])
            self.assertEqual(found[-1][7], 0)
        else:
            self.assertEqual(found[-2], [1, 9])
            self.assertEqual(found[-1], [9, 0, behind, behind + 1000, 0, 0, behind, delay])

    def test_it_is_capacity_times_1000_at_first(self):
        self.check_delay(5, 0, 4, 1, 0, None)
        self.check_delay(5, 0, 5, 1, 0, 0)
        self.check_delay(100, 0, 100, 0, 0, None)
        self.check_delay(0, 0, 0, 0, 0, None)
        self.check_delay(0, 1000, 0, 1, 5000, 0)

    def test_the_delay_is_rounded_up(self):
        self.check_delay(2, 10, 2, 1, 0, 100)
        self.check_delay(1, 1000, 1, 1, 0, 1)
        self.check_delay(1, 999, 1, 1, 0, 2)
        self.check_delay(1, 300, 1, 1, 0, 4)
        self.check_delay(1, 300, 1, 1, 3, 1)
        self.check_delay(1, 300, 1, 1, 4, None)
        self.check_delay(100, 7, 100, 100, 0, 14286)

    def test_behind_the_delay_the_request_is_let_in_and_a_millisecond_ahead_it_is_not(self):
        for refill in (1, 7, 250, 333, 500, 501, 1000):
            delay = (3000 + refill - 1) // refill
            self.check_delay(9, refill, 9, 3, 0, delay)
            self.check_delay(9, refill, 9, 3, delay - 1, 1)
            self.check_delay(9, refill, 9, 3, delay, None)

    def test_no_delay_is_told_where_waiting_does_not_help(self):
        self.check_delay(5, 0, 5, 1, 1000, 0)
        self.check_delay(5, 10, 5, 6, 0, 0)
        self.check_delay(5, 10, 0, 6, 0, 0)
        self.check_delay(5, 10, 1, 5, 0, 100)

    def test_it_never_exceeds_the_capacity(self):
        self.check(
            (create(), 0),
            (add_method(1, 0, []), 0),
            (add_client(capacity=2, refill=1000), 0),
            (advance(50), 0, 50),
            (request(), 0, 1),
            (request(), 1, 1),
            (request(), 2, 9),
            (advance(1000000), 0, 1000050),
            (request(), 3, 1),
            (request(), 4, 1),
            (request(), 5, 9),
            (request_info(5), 9, 0, 1000050, 1001050, 0, 0, 1000050, 1),
        )

    def test_a_part_of_it_stays_behind_each_request(self):
        self.check(
            (create(), 0),
            (add_method(1, 0, []), 0),
            (add_client(capacity=3, refill=400), 0),
            (request(), 0, 1),
            (advance(1), 0, 1),
            (request(), 1, 1),
            (advance(1), 0, 2),
            (request(), 2, 1),
            # 3000 - 1000 + 400 - 1000 + 400 - 1000 is 800.
            (request(), 3, 9),
            (request_info(3), 9, 0, 2, 1002, 0, 0, 2, 1),
            (advance(3), 0, 5),
            (request(), 4, 1),
            (request(), 5, 1),
            (request(), 6, 9),
        )

    def test_each_client_has_its_own(self):
        self.check(
            (create(), 0), (add_method(1, 0, []), 0), (add_client(capacity=1), 0), (advance(10), 0, 10),
            (add_client(capacity=1, refill=50), 1), (request(0), 0, 1), (request(0), 1, 9), (request(1), 2, 1),
            (request(1), 3, 9), (request_info(3), 9, 1, 10, 1010, 0, 0, 10, 20),
        )

    def test_a_called_method_costs_nothing_more(self):
        self.check(
            (create(), 0), (add_method(9, 0, []), 0), (add_method(1, 0, [5, 0]), 1), (add_client(capacity=2), 0),
            (request(method=1), 0, 1), (request(method=1), 1, 1), (request(method=1), 2, 9),
        )

    def test_what_ended_early_is_not_paid_back(self):
        self.check(
            (create(), 0), (add_method(1, 0, [0, 80]), 0), (add_client(capacity=2), 0),
            (request(), 0, 0), (request(), 1, 0), (cancel(1), 0), (cancel(0), 0), (request(), 2, 9),
        )


def served(times, **settings):
    """Calls: a server whose methods 0 to 4 wait so long, which have been executed one behind another; 5 waits 1000."""
    calls = [create(**settings)] + [add_method(0, 0, [0, time]) for time in times]
    calls += [add_method(0, 0, [0, 1000]), add_client()]
    for number, time in enumerate(times):
        calls += [request(method=number, timeout=100000), advance(time)]
    return calls


class EstimatedWait(TalkCase):
    def told_wait(self, calls, method, limit=1):
        """The retry delay of a request at a full server whose slots are taken first."""
        count = sum(1 for row in calls if row[0] == 3)
        calls = calls + [request(method=method) for _ in range(limit)]
        found = replies(calls + [request(method=method), request_info(count + limit)])
        self.assertEqual(found[-2], [count + limit, 101])
        return found[-1][7]

    def test_the_average_over_several_executions(self):
        averages = [0, 80, 80 - 10 + 80, 150 - 18 + 7, 139 - 17 + 0, 122 - 15 + 5000]
        times = [80, 80, 7, 0, 5000]
        for count, average in enumerate(averages):
            calls = served(times[:count], queue_limit=0)
            self.assertEqual(self.told_wait(calls, count), average // 8)

    def test_an_eighth_of_the_average_is_rounded_down(self):
        for time, wait in ((7, 0), (8, 1), (79, 9), (80, 10), (87, 10), (88, 11)):
            self.assertEqual(self.told_wait(served([time], queue_limit=0), 1), wait)

    def test_it_grows_with_the_queue(self):
        for queue_limit in (0, 1, 2, 16):
            calls = served([100], queue_limit=queue_limit) + [request(method=1)] * queue_limit
            self.assertEqual(self.told_wait(calls, 1), (queue_limit + 1) * 12)

    def test_it_is_shared_among_the_slots_and_rounded_down(self):
        for limit in range(1, 9):
            calls = served([100], limit=limit, queue_limit=4) + [request(method=1)] * 4
            self.assertEqual(self.told_wait(calls, 1, limit), 5 * 12 // limit)

    def test_the_time_in_the_queue_does_not_count(self):
        calls = [create(queue_limit=1), add_method(0, 0, [0, 80]), add_client(), request(), request(), advance(160)]
        # 80, then 80 - 10 + 80.
        self.assertEqual(self.told_wait(calls + [request()], 0), 2 * (150 // 8))

    def test_the_time_of_all_waits_of_an_execution_counts(self):
        calls = [create(queue_limit=0), add_method(0, 0, [0, 30, 0, 50]), add_client(), request(), advance(200)]
        self.assertEqual(self.told_wait(calls, 0), 10)

    def test_any_status_of_a_program_counts(self):
        for behind in ([4, 3], [4, 1], [2, 0] * 6):
            calls = [create(queue_limit=0), add_method(0, 0, [0, 80] + behind), add_client(),
                     request(payload=[1] * 8), advance(80)]
            self.assertEqual(self.told_wait(calls, 0), 10)

    def test_an_execution_that_ends_at_once_counts_with_0(self):
        calls = served([800, 0, 0], queue_limit=0)
        # 800, 700, 613.
        self.assertEqual(self.told_wait(calls, 3), 613 // 8)

    def test_dropped_and_stopped_ones_do_not_count(self):
        before = [create(queue_limit=1), add_method(0, 0, [0, 80]), add_client(), request(), advance(80)]
        calls = before + [request(), request(), advance(5), cancel(2), cancel(1), request(timeout=9), advance(20), request()]
        self.assertEqual(self.told_wait(calls, 0), 2 * 10)

    def test_an_abandoned_one_with_a_key_counts_at_its_end(self):
        calls = [create(queue_limit=0), add_method(0, 0, [0, 80]), add_client(), request(key=5), cancel(0), advance(80)]
        self.assertEqual(self.told_wait(calls, 0), 10)

    def test_a_joined_result_does_not_count_again(self):
        calls = [create(queue_limit=0), add_method(0, 0, [0, 80]), add_client(), request(key=5), request(key=5), advance(80),
                 request(key=5)]
        self.assertEqual(self.told_wait(calls, 0), 10)

    def test_shedding_with_several_slots(self):
        # An average of 100: with two slots taken the wait is 12 // 2, with one queued 2 * 12 // 2.
        calls = served([100], limit=2, shedding=1)
        rows = [(row,) for row in calls]
        self.check(
            *rows,
            (request(method=1, timeout=1), 1, 0),
            (request(method=1, timeout=1), 2, 0),
            (request(method=1, timeout=6), 3, 101),
            (request(method=1, timeout=7), 4, 0),
            (request(method=1, timeout=12), 5, 101),
            (request(method=1, timeout=13), 6, 0),
            (request_info(3), 101, 0, 100, 106, 0, 0, 100, 6),
            (request_info(5), 101, 0, 100, 112, 0, 0, 100, 12),
            # At 101 the first two have ended and the queued ones run.
            (run(2), 101),
            (request(method=1, timeout=6), 7, 101),
            (cancel(4), 0),
            (request(method=1, timeout=1), 8, 0),
        )
