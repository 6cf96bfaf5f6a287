"""request, cancel, request_info, response and execution_info: answers, errors and their order."""

from talk import (TalkCase, add_client, add_method, advance, cancel, create, execution_info, list_queue, replies,
                  request, request_info, response, run, view)

GREATEST = 4294967295

# Request 0 runs until 50, request 1 is queued, request 2 has ended at once with the status 16.
BUSY = [create(), add_method(0, 0, [1, 5, 0, 50]), add_client(), request(), request(key=6), request(token=8)]


class RequestErrors(TalkCase):
    def test_the_client_must_exist(self):
        self.check((create(), 0), (request(client=0), -2), (add_client(), 0), (request(client=0), 0, 13))
        self.check_refused(BUSY, request(client=1), -2, view(3, 2) + [request()])
        self.check_refused(BUSY, request(client=GREATEST), -2, view(3, 2) + [request()])

    def test_the_timeout_at_its_edges(self):
        self.check_refused(BUSY, request(timeout=0), -22, view(3, 2) + [request()])
        self.check_refused(BUSY, request(timeout=100001), -22, view(3, 2) + [request()])
        self.check_refused(BUSY, request(timeout=GREATEST), -22, view(3, 2) + [request()])
        rows = [(row,) for row in BUSY]
        self.check(*rows, (request(timeout=1), 3, 0), (request(timeout=100000), 4, 0))

    def test_the_payload_at_its_edges(self):
        for payload in ([0] * 9, [0] * 16, [1001], [0] * 7 + [1001], [GREATEST]):
            self.check_refused(BUSY, request(payload=payload), -22, view(3, 2) + [request()])
        rows = [(row,) for row in BUSY]
        self.check(*rows, (request(payload=[1000] * 8), 3, 0), (request(payload=[]), 4, 0))

    def test_at_most_60_requests(self):
        # More calls than one list is to have: 60 requests and the calls ahead of them are more than 60.
        sixty = [create(), add_client()] + [request() for _ in range(60)]
        self.assertEqual(replies(sixty)[-1], [59, 13])
        self.check_refused(sixty, request(), -28, view(60, 0))

    def test_the_order_of_the_errors(self):
        sixty = [create(), add_client()] + [request() for _ in range(60)]
        for before in (BUSY, sixty):
            for wrong in ({"timeout": 0}, {"timeout": 100001}, {"payload": [0] * 9}, {"payload": [1001]}):
                self.assertEqual(replies(before + [request(client=1, **wrong)])[-1], [-2])
                self.assertEqual(replies(before + [request(**wrong)])[-1], [-22])
        self.assertEqual(replies(sixty + [request(client=1)])[-1], [-2])

    def test_errors_come_ahead_of_the_arrival(self):
        for wrong in ({"token": 8}, {"method": 1}, {"key": 6, "payload": [3]}):
            self.assertEqual(replies(BUSY + [request(timeout=0, **wrong)])[-1], [-22])

    def test_token_method_and_key_may_be_any(self):
        rows = [(row,) for row in BUSY]
        self.check(
            *rows,
            (request(token=GREATEST), 3, 17),
            (request(method=GREATEST), 4, 13),
            (request(key=GREATEST), 5, 0),
            (execution_info(2), 0, GREATEST, 0, 0, 0, 0, 0, 0, 1, 0),
        )


class RequestAnswers(TalkCase):
    def test_open_ended_at_once_and_kept_out(self):
        self.check(
            (create(limit=8), 0),
            (add_method(0, 0, [0, 5]), 0),
            (add_method(0, 0, []), 1),
            (add_method(0, 0, [4, 16]), 2),
            (add_client(), 0),
            (request(method=0), 0, 0),
            (request(method=1), 1, 1),
            (request(method=2), 2, 17),
            (request(token=6), 3, 17),
        )

    def test_what_is_told_of_each(self):
        self.check(
            (create(limit=1), 0),
            (add_method(0, 0, [1, 9, 0, 5, 2, 0]), 0),
            (add_client(), 0),
            (add_client(token=70), 1),
            (advance(30), 0, 30),
            (request(client=1, token=70, timeout=200, key=4, payload=[3, 8]), 0, 0),
            (request(timeout=100, payload=[1]), 1, 0),
            (request(client=1, token=7, timeout=1), 2, 17),
            (advance(2), 0, 32),
            (request(client=1, token=70, timeout=50, key=4, payload=[3, 8]), 3, 0),
            (request_info(0), 0, 1, 30, 230, 1, 0, 0, 0),
            (request_info(1), 0, 0, 30, 130, 2, 0, 0, 0),
            (request_info(2), 17, 1, 30, 31, 0, 0, 30, 0),
            (request_info(3), 0, 1, 32, 82, 1, 1, 0, 0),
            (execution_info(0), 1, 4, 0, 1, 35, 30, 0, 2, 2, 1),
            (execution_info(1), 0, 0, 0, 0, 0, 0, 0, 0, 1, 0),
            (advance(4), 1, 36),
            (request_info(0), 1, 1, 30, 230, 1, 0, 35, 0),
            (request_info(1), 0, 0, 30, 130, 2, 0, 0, 0),
            (request_info(3), 1, 1, 32, 82, 1, 1, 35, 0),
            (execution_info(0), 1, 4, 0, 2, 0, 30, 35, 3, 0, 3),
            (execution_info(1), 0, 0, 0, 1, 40, 35, 0, 2, 1, 1),
            (response(0), 3, 9, 3, 8),
            (response(1), -33),
            (response(2), -33),
            (response(3), 3, 9, 3, 8),
        )

    def test_numbers_that_do_not_exist(self):
        for wrong in (3, 4, GREATEST):
            self.check_refused(BUSY, request_info(wrong), -2, view(3, 2))
            self.check_refused(BUSY, response(wrong), -2, view(3, 2))
        for wrong in (2, 3, GREATEST):
            self.check_refused(BUSY, execution_info(wrong), -2, view(3, 2))
        for one in (request_info(0), response(0), execution_info(0)):
            self.check((create(), 0), (one, -2))

    def test_a_response_needs_the_status_0(self):
        rows = [(row,) for row in BUSY]
        self.check(
            *rows,
            (response(0), -33),
            (response(1), -33),
            (response(2), -33),
            (cancel(1), 0),
            (response(1), -33),
            (advance(50), 1, 50),
            (response(0), 1, 5),
        )
        self.check((create(), 0), (add_method(0, 0, [1, 5, 4, 1]), 0), (add_client(), 0), (request(), 0, 2),
                   (execution_info(0), 0, 0, 0, 2, 1, 0, 0, 2, 0, 1), (response(0), -33))

    def test_a_response_may_have_no_values(self):
        self.check((create(), 0), (add_method(0, 0, []), 0), (add_client(), 0), (request(), 0, 1), (response(0), 0))


class Cancel(TalkCase):
    def test_it_ends_an_open_request_with_status_1(self):
        rows = [(row,) for row in BUSY]
        self.check(
            *rows,
            (advance(7), 0, 7),
            (cancel(1), 0),
            (request_info(1), 2, 0, 0, 1000, 2, 0, 7, 0),
            (request_info(0), 0, 0, 0, 1000, 1, 0, 0, 0),
            (execution_info(1), 0, 6, 0, 3, 0, 0, 7, 0, 0, 0),
            (list_queue(), 0),
        )

    def test_the_request_must_exist(self):
        self.check((create(), 0), (cancel(0), -2))
        self.check_refused(BUSY, cancel(3), -2, view(3, 2))
        self.check_refused(BUSY, cancel(GREATEST), -2, view(3, 2))

    def test_it_must_be_open(self):
        for before, ended in (
            (BUSY, 2),
            (BUSY + [cancel(1)], 1),
            (BUSY + [cancel(0)], 0),
            (BUSY + [advance(50)], 0),
            (BUSY + [advance(2000)], 1),
            (BUSY + [request(key=6, timeout=10), run(1)], 3),
        ):
            after = view(3, 2) + [request(), run(9)]
            self.check_refused(before, cancel(ended), -16, after)
