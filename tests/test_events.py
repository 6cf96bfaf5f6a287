"""advance, run and next_event: the order of events, the clock, and the edges of their arguments."""

from talk import (TalkCase, add_client, add_method, advance, cancel, create, execution_info, list_queue, next_event,
                  request, request_info, response, rows, run, view)

GREATEST = 4294967295
BUSY = [create(), add_method(0, 0, [0, 50, 3, 0]), add_client(), request(timeout=900), request(timeout=40), request()]


class Advance(TalkCase):
    def test_the_duration_at_its_edges(self):
        self.check((create(), 0), (advance(0), 0, 0), (advance(1), 0, 1), (advance(1000000), 0, 1000001),
                   (advance(1000000), 0, 2000001))
        self.check_refused(BUSY, advance(1000001), -22, view(3, 3) + [run(1)] + view(3, 3))
        self.check_refused(BUSY, advance(GREATEST), -22, view(3, 3) + [run(1)] + view(3, 3))

    def test_to_the_millisecond_of_an_event_and_to_the_one_ahead_of_it(self):
        self.check(*rows(BUSY), (advance(39), 0, 39), (request_info(1), 0, 0, 0, 40, 2, 0, 0, 0), (advance(1), 1, 40),
                   (request_info(1), 5, 0, 0, 40, 2, 0, 40, 0))
        self.check(*rows(BUSY), (advance(49), 1, 49), (response(0), -33), (advance(1), 1, 50), (response(0), 1, 0))
        self.check(*rows(BUSY), (advance(49), 1, 49), (response(0), -33), (advance(2), 1, 51), (response(0), 1, 0),
                   (request_info(0), 1, 0, 0, 900, 1, 0, 50, 0))

    def test_events_that_come_of_events_happen_too(self):
        self.check(
            *rows(BUSY),
            (advance(1000), 3, 1000),
            (request_info(0), 1, 0, 0, 900, 1, 0, 50, 0),
            (request_info(1), 5, 0, 0, 40, 2, 0, 40, 0),
            (request_info(2), 1, 0, 0, 1000, 3, 0, 100, 0),
            (execution_info(2), 0, 0, 0, 2, 0, 50, 100, 2, 0, 1),
            (next_event(), -33),
        )

    def test_it_adds_to_the_clock(self):
        self.check(*rows(BUSY), (advance(30), 0, 30), (advance(15), 1, 45), (advance(0), 0, 45), (advance(60), 2, 105),
                   (run(0), 105))


class Run(TalkCase):
    def test_the_count_at_its_edges(self):
        self.check((create(), 0), (run(0), 0), (run(1), 0), (run(40), 0))
        self.check_refused(BUSY, run(41), -22, view(3, 3) + [run(1)] + view(3, 3))
        self.check_refused(BUSY, run(GREATEST), -22, view(3, 3) + [run(1)] + view(3, 3))

    def test_it_lets_just_so_many_events_happen(self):
        self.check(*rows(BUSY), (run(0), 0), (next_event(), 40, 1, 1), (run(1), 40), (next_event(), 50, 0, 0))
        self.check(*rows(BUSY), (run(2), 50), (next_event(), 100, 0, 2), (run(1), 100), (next_event(), -33))
        self.check(*rows(BUSY), (run(3), 100), (run(40), 100))
        self.check(*rows(BUSY), (run(40), 100))

    def test_40_events(self):
        self.check(
            (create(), 0), (add_method(0, 0, [0, 1] * 8), 0), (add_method(0, 0, [5, 0] * 6), 1), (add_client(), 0),
            (request(method=1), 0, 0), (run(40), 40), (next_event(), 41, 0, 0), (run(39), 48),
        )

    def test_behind_an_advance(self):
        self.check(*rows(BUSY), (advance(45), 1, 45), (run(1), 50), (advance(7), 0, 57), (run(1), 100))


class NextEvent(TalkCase):
    def test_there_may_be_none(self):
        self.check((create(), 0), (next_event(), -33), (add_method(0, 0, []), 0), (add_client(), 0), (next_event(), -33),
                   (request(), 0, 1), (request(token=1), 1, 17), (next_event(), -33), (advance(5), 0, 5), (next_event(), -33))

    def test_it_changes_nothing(self):
        self.check(*rows(BUSY), (next_event(), 40, 1, 1), (next_event(), 40, 1, 1), (run(0), 0),
                   (request_info(1), 0, 0, 0, 40, 2, 0, 0, 0), (advance(39), 0, 39), (next_event(), 40, 1, 1))

    def test_what_has_ended_has_no_event(self):
        self.check(*rows(BUSY), (cancel(1), 0), (next_event(), 50, 0, 0), (cancel(0), 0), (next_event(), 50, 0, 2),
                   (cancel(2), 0), (next_event(), -33))

    def test_the_time_comes_ahead_of_the_kind_and_the_number(self):
        self.check(
            (create(limit=3), 0), (add_method(0, 0, [0, 60]), 0), (add_method(0, 0, [0, 50]), 1), (add_client(), 0),
            (request(timeout=70), 0, 0), (request(method=1, timeout=40), 1, 0), (request(method=1, timeout=800), 2, 0),
            (next_event(), 40, 1, 1), (run(1), 40), (next_event(), 50, 0, 2), (run(1), 50), (next_event(), 60, 0, 0),
        )


class EventsOfOneTime(TalkCase):
    # Executions 0 and 1 go on at 50, and at 50 the requests 0, 2 and 3 reach their deadlines.
    same = [
        create(limit=2), add_method(0, 0, [0, 50, 3, 0, 0, 20]), add_client(),
        request(timeout=50, payload=[1]), request(timeout=90, payload=[20]),
        request(timeout=50, payload=[300]), request(timeout=50, payload=[1000], key=5), request(timeout=60, key=5, payload=[1000]),
    ]

    def test_in_the_order_of_kinds_and_then_of_numbers(self):
        self.check(
            *rows(self.same),
            (next_event(), 50, 0, 0),
            (run(1), 50),
            (execution_info(0), 0, 0, 0, 1, 70, 0, 0, 3, 1, 1),
            (next_event(), 50, 0, 1),
            (run(1), 50),
            (execution_info(1), 0, 0, 0, 1, 70, 0, 0, 3, 1, 1),
            (next_event(), 50, 1, 0),
            (run(1), 50),
            (request_info(0), 5, 0, 0, 50, 1, 0, 50, 0),
            (execution_info(0), 0, 0, 0, 2, 1, 0, 50, 3, 0, 1),
            # The stopped execution leaves its slot to the third one, just ahead of that one's deadline.
            (execution_info(2), 0, 0, 0, 1, 100, 50, 0, 1, 1, 0),
            (next_event(), 50, 1, 2),
            (run(1), 50),
            (execution_info(2), 0, 0, 0, 2, 1, 50, 50, 1, 0, 0),
            (execution_info(3), 0, 5, 0, 1, 100, 50, 0, 1, 2, 0),
            (next_event(), 50, 1, 3),
            (run(1), 50),
            (execution_info(3), 0, 5, 0, 1, 100, 50, 0, 1, 1, 0),
            (next_event(), 60, 1, 4),
        )

    def test_an_advance_over_all_of_them(self):
        self.check(
            *rows(self.same),
            (advance(49), 0, 49),
            (advance(1), 5, 50),
            (request_info(0), 5, 0, 0, 50, 1, 0, 50, 0),
            (request_info(1), 0, 0, 0, 90, 2, 0, 0, 0),
            (request_info(2), 5, 0, 0, 50, 3, 0, 50, 0),
            (request_info(3), 5, 0, 0, 50, 4, 0, 50, 0),
            (request_info(4), 0, 0, 0, 60, 4, 1, 0, 0),
            (advance(50), 3, 100),
            (request_info(1), 1, 0, 0, 90, 2, 0, 70, 0),
            (response(1), 1, 21),
            (request_info(4), 5, 0, 0, 60, 4, 1, 60, 0),
            (execution_info(3), 0, 5, 0, 1, 120, 50, 0, 3, 0, 1),
            (advance(20), 1, 120),
            (execution_info(3), 0, 5, 0, 2, 0, 50, 120, 3, 0, 1),
            (next_event(), -33),
        )

    def test_a_run_over_all_of_them(self):
        self.check(*rows(self.same), (run(5), 50), (next_event(), 60, 1, 4))
        self.check(*rows(self.same), (run(6), 60), (run(1), 70), (run(1), 100), (run(1), 120), (next_event(), -33))

    def test_an_execution_that_ends_at_the_deadline_of_its_request_is_in_time(self):
        self.check(
            (create(), 0), (add_method(0, 0, [0, 50]), 0), (add_client(), 0), (request(timeout=50), 0, 0),
            (next_event(), 50, 0, 0), (advance(50), 1, 50), (request_info(0), 1, 0, 0, 50, 1, 0, 50, 0),
        )
        self.check(
            (create(), 0), (add_method(0, 0, [0, 50]), 0), (add_client(), 0), (request(timeout=49), 0, 0),
            (next_event(), 49, 1, 0), (advance(50), 1, 50), (request_info(0), 5, 0, 0, 49, 1, 0, 49, 0),
        )

    def test_a_wait_of_0_at_a_deadline_goes_on_first(self):
        self.check(
            (create(), 0), (add_method(0, 0, [0, 50, 0, 0, 0, 0]), 0), (add_client(), 0), (request(timeout=50), 0, 0),
            (advance(50), 3, 50), (request_info(0), 1, 0, 0, 50, 1, 0, 50, 0),
        )

    def test_deadlines_of_one_execution(self):
        self.check(
            (create(), 0), (add_method(0, 0, [0, 500]), 0), (add_client(), 0), (request(), 0, 0),
            (request(key=5, timeout=30), 1, 0), (request(key=5, timeout=30), 2, 0), (request(key=5, timeout=30), 3, 0),
            (run(1), 30), (execution_info(1), 0, 5, 0, 0, 0, 0, 0, 0, 2, 0), (list_queue(), 1, 1),
            (run(1), 30), (execution_info(1), 0, 5, 0, 0, 0, 0, 0, 0, 1, 0),
            (run(1), 30), (execution_info(1), 0, 5, 0, 3, 0, 0, 30, 0, 0, 0), (list_queue(), 0),
        )

    def test_calls_between_events_of_one_time(self):
        self.check(
            *rows(self.same),
            (run(1), 50),
            # Cancelled ahead of its deadline of the same time, it ends with status 1, and only once.
            (cancel(0), 0),
            (request_info(0), 2, 0, 0, 50, 1, 0, 50, 0),
            (next_event(), 50, 0, 1),
            (run(1), 50),
            (next_event(), 50, 1, 2),
            (request(timeout=1), 5, 0),
            (request_info(5), 0, 0, 50, 51, 5, 0, 0, 0),
            (advance(0), 2, 50),
            (next_event(), 51, 1, 5),
        )
