"""preview_request: the second result that request would return, the errors of request, and nothing that changes."""

from talk import (TalkCase, add_client, add_method, advance, call, cancel, create, execution_info, next_event, preview, replies,
                  request, request_info, rows, run, set_limit, set_roles, shutdown, view)

GREATEST = 4294967295
WAITS = [0, 80]


class Outcomes(TalkCase):
    def check_outcome(self, before, shown, **asked):
        """A preview shows this, a request has it as its second result, and the preview leaves all else as it was."""
        requests = sum(1 for one in before if one[0] == 3)
        after = view(requests + 1, requests + 1) + [request(**asked)] + view(requests + 2, requests + 2) + [run(3)]
        after += view(requests + 2, requests + 2)
        with_it = replies(before + [preview(**asked)] + after)
        self.assertEqual(with_it[len(before)], [shown], asked)
        self.assertEqual(with_it[len(before) + 1:], replies(before + after)[len(before):], asked)
        self.assertEqual(replies(before + [request(**asked)])[-1], [requests, shown], asked)


class EachPoint(Outcomes):
    # One runs and one is queued, which is all there is room for; the average is 80, so the estimated wait is 20.
    full = [
        create(limit=1, queue_limit=1, shedding=1), add_method(1, 1, WAITS), add_method(0, 2, [3, 0]), add_client(capacity=5),
        add_client(roles=1, capacity=2), request(), advance(80), request(key=5), request(key=6, payload=[4]),
    ]
    # The same with room for one more.
    shedding = [create(limit=1, queue_limit=2, shedding=1)] + full[1:]

    def test_1_after_shutdown(self):
        for grace in (0, 9):
            for behind in ([], [advance(8)], [advance(9)], [advance(10)]):
                before = self.full + [shutdown(grace)] + behind
                for asked in ({}, {"token": 8}, {"method": 9}, {"key": 5}, {"key": 5, "payload": [1]}):
                    self.check_outcome(before, 101, **asked)

    def test_2_the_token(self):
        for asked in ({}, {"method": 9}, {"method": 1}, {"key": 5}, {"client": 1, "method": 1}):
            self.check_outcome(self.full, 17, token=8, **asked)

    def test_3_the_method(self):
        for asked in ({}, {"key": 5}, {"client": 1}, {"timeout": 1}):
            self.check_outcome(self.full, 13, method=2, **asked)
        self.check_outcome(self.full, 13, method=GREATEST)

    def test_4_the_roles(self):
        self.check_outcome(self.full, 8, client=1, method=1)
        self.check_outcome(self.full, 8, client=1, method=1, key=5)
        self.check_outcome(self.full + [set_roles(0, 1)], 8, method=1, key=5)
        self.check_outcome(self.full + [set_roles(0, 2)], 8, key=5)

    def test_5_a_shared_execution(self):
        for key, payload in ((5, []), (6, [4])):
            self.check_outcome(self.full, 0, key=key, payload=payload)
            self.check_outcome(self.full, 0, key=key, payload=payload, timeout=1)
            self.check_outcome(self.full, 4, key=key, payload=payload + [0])
            self.check_outcome(self.full, 4, key=key, payload=payload, method=1)
        for status in (0, 3, 8, 16):
            ending = [] if status == 0 else [4, status]
            before = [create(lifetime=30), add_method(0, 0, [0, 5] + ending), add_client(), add_client(), request(key=5),
                      advance(20)]
            self.check_outcome(before, status + 1, key=5)
            self.check_outcome(before, 4, key=5, payload=[1])
            self.check_outcome(before + [advance(14)], status + 1, key=5)
            self.check_outcome(before + [advance(15)], 0, key=5)
            self.check_outcome(before, 0, key=0)
            self.check_outcome(before, 0, key=5, client=1)

    def test_6_the_quota(self):
        # Client 1 has 2000, and then 1000 and 0; at a refill of 0 it stays so.
        before = [create(limit=8), add_method(1, 0, WAITS), add_client(capacity=2), add_client(capacity=2, refill=10)]
        self.check_outcome(before, 0)
        self.check_outcome(before + [request()], 0)
        self.check_outcome(before + [request(), request()], 9)
        spent = before + [request(1), request(1)]
        self.check_outcome(spent, 9, client=1)
        self.check_outcome(spent + [advance(99)], 9, client=1)
        self.check_outcome(spent + [advance(100)], 0, client=1)
        # Ahead of the points 7 and 8.
        self.check_outcome(self.full + [cancel(2), request(), cancel(3), request(), cancel(4), request()], 9, timeout=1)

    def test_7_slots_and_queue_full(self):
        self.check_outcome(self.full, 101)
        self.check_outcome(self.full, 101, client=1)
        self.check_outcome(self.full, 101, timeout=100000)
        self.check_outcome(self.full + [cancel(2)], 0)
        self.check_outcome(self.full + [set_limit(2)], 0)

    def test_8_shedding(self):
        self.check_outcome(self.shedding, 101, timeout=20)
        self.check_outcome(self.shedding, 0, timeout=21)
        self.check_outcome(self.shedding, 101, timeout=1)
        self.check_outcome(self.shedding + [cancel(2)], 101, timeout=10)
        self.check_outcome(self.shedding + [cancel(2)], 0, timeout=11)
        self.check_outcome(self.shedding + [set_limit(3)], 0, timeout=1)

    def test_9_it_would_be_queued(self):
        for discipline in range(3):
            before = [create(discipline=discipline), add_method(1, 0, [3, 0]), add_method(1, 0, WAITS), add_client(capacity=9),
                      request(method=1), request(), request(timeout=500)]
            self.check_outcome(before, 0)
            self.check_outcome(before, 0, timeout=1, key=5, payload=[3])
            self.check_outcome(before, 0, method=1)

    def test_9_it_would_run(self):
        for program in ([0, 9], [0, 0], [3, 0, 1, 5, 0, 9], [3, 1, 0, 0, 4, 9]):
            before = [create(limit=2), add_method(3, 0, program), add_client(capacity=9), request(payload=[2])]
            self.check_outcome(before, 0, payload=[7, 8])
            self.check_outcome(before, 0, payload=[7, 8], key=5)

    def test_9_it_would_end_at_once(self):
        programs = {
            1: [[], [3, 0], [6, 0, 2, 0, 3, 1, 3, 2], [5, 0]],
            2: [[4, 1]],
            5: [[3, 0, 4, 4, 1, 1]],
            9: [[3, 0, 4, 8]],
            17: [[3, 3, 4, 16]],
        }
        for shown, with_this_end in programs.items():
            for program in with_this_end:
                before = [create(), add_method(0, 0, [3, 0]), add_method(2, 0, program), add_client(capacity=9),
                          request(payload=[2]), advance(7)]
                self.check_outcome(before, shown, method=1, payload=[7, 8])
                self.check_outcome(before, shown, method=1, payload=[7, 8], key=5)

    def test_9_it_would_end_at_once_at_a_bound(self):
        before = [create(), add_method(0, 0, [2, 0] * 8), add_method(0, 0, [5, 0] * 8), add_method(0, 0, [5, 1, 5, 1]),
                  add_method(0, 0, [2, 0] * 5 + [3, 1]), add_client()]
        self.check_outcome(before, 9, method=2)
        self.check_outcome(before, 9, method=3, payload=[1000] * 8)
        self.check_outcome(before, 1, method=3, payload=[1000] * 7)
        self.check_outcome(before, 9, payload=[1] * 6)
        self.check_outcome(before, 1, payload=[1] * 5)

    def test_the_registers_stay_as_they_were(self):
        before = [create(), add_method(0, 0, [3, 0, 6, 0]), add_client(), request(payload=[5])]
        found = replies(before + [preview(payload=[40])] * 3 + [request(payload=[2]), call(9, 1)])
        self.assertEqual(found[-5:], [[1], [1], [1], [1, 1], [2, 7, 7]])


class Errors(TalkCase):
    busy = [create(), add_method(0, 0, [1, 5, 0, 50]), add_client(), request(), request(key=6), request(token=8)]
    sixty = [create(), add_client()] + [request() for _ in range(60)]

    def check_error(self, before, code, **asked):
        self.check_refused(before, preview(**asked), code, view(3, 2) + [request(), advance(60)] + view(4, 3))
        self.assertEqual(replies(before + [request(**asked)])[-1], [code])

    def test_the_client_must_exist(self):
        self.check((create(), 0), (preview(), -2), (add_client(), 0), (preview(), 13))
        self.check_error(self.busy, -2, client=1)
        self.check_error(self.busy, -2, client=GREATEST)

    def test_the_timeout_at_its_edges(self):
        for timeout in (0, 100001, GREATEST):
            self.check_error(self.busy, -22, timeout=timeout)
        self.check(*rows(self.busy), (preview(timeout=1), 0), (preview(timeout=100000), 0))

    def test_the_payload_at_its_edges(self):
        for payload in ([0] * 9, [0] * 16, [1001], [0] * 7 + [1001], [GREATEST]):
            self.check_error(self.busy, -22, payload=payload)
        self.check(*rows(self.busy), (preview(payload=[1000] * 8), 0), (preview(payload=[]), 0))

    def test_at_most_60_requests(self):
        # More calls than one list is to have: 60 requests and the calls ahead of them are more than 60.
        self.assertEqual(replies(self.sixty[:-1] + [preview()])[-1], [13])
        self.check_error(self.sixty, -28)

    def test_the_order_of_the_errors(self):
        for before in (self.busy, self.sixty):
            for wrong in ({"timeout": 0}, {"timeout": 100001}, {"payload": [0] * 9}, {"payload": [1001]}):
                self.check_error(before, -2, client=1, **wrong)
                self.check_error(before, -22, **wrong)
        self.check_error(self.sixty, -2, client=1)

    def test_errors_come_ahead_of_the_arrival(self):
        for wrong in ({"token": 8}, {"method": 1}, {"key": 6, "payload": [3]}):
            self.check_error(self.busy, -22, timeout=0, **wrong)
        for grace in (0, 9):
            self.check_error(self.busy + [shutdown(grace)], -22, timeout=0)
            self.check_error(self.busy + [shutdown(grace)], -2, client=1)


class NothingChanges(TalkCase):
    def test_it_takes_no_number_no_quota_and_no_slot(self):
        asked = {"method": 1, "key": 5, "payload": [9]}
        self.check(
            (create(queue_limit=0), 0), (add_method(1, 0, [3, 0]), 0), (add_method(1, 0, [3, 0, 0, 9]), 1),
            (add_client(capacity=1), 0), (preview(**asked), 0), (preview(**asked), 0), (preview(method=0, key=5), 1),
            (next_event(), -33), (execution_info(0), -2), (request_info(0), -2), (call(13), 4, 0, 0, 0, 0),
            (call(14, 0), 1000, 1, 0), (call(15, 0, 5), -33), (call(19), 0, 0), (call(21), 0, 0, 0, 0, 0, 0, 0),
            (call(22), 0, 0, 0, 0, 2, 1), (request(**asked), 0, 0), (preview(**asked), 0), (preview(method=0), 9),
            (execution_info(0), 0, 5, 1, 1, 9, 0, 0, 2, 1, 1), (call(13), 4, 9, 0, 0, 0),
        )

    def test_it_does_not_change_the_average(self):
        # An execution that ends at once would bring 80 to 70.
        self.check(
            (create(), 0), (add_method(0, 0, WAITS), 0), (add_method(0, 0, []), 1), (add_client(), 0), (request(), 0, 0),
            (advance(80), 1, 80), (preview(method=1), 1), (call(19), 0, 80), (request(method=1), 1, 1), (call(19), 0, 70),
        )

    def test_it_lets_no_event_happen(self):
        self.check(
            (create(), 0), (add_method(0, 0, [0, 0, 0, 5]), 0), (add_client(), 0), (request(timeout=5), 0, 0), (preview(), 0),
            (next_event(), 0, 0, 0), (run(1), 0), (preview(timeout=1), 0), (next_event(), 5, 0, 0), (advance(5), 1, 5),
        )
