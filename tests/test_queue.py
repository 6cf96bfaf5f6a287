"""The slots and the queue: the three disciplines, starting, ending early, and what is left of an execution."""

from talk import (TalkCase, add_client, add_method, advance, cancel, create, execution_info, list_queue, next_event,
                  replies, request, request_info, response, run)

WAITS = [0, 80]


def queued(discipline, timeouts):
    """Calls: one request that runs until 80, and behind it a request with each of these timeouts."""
    calls = [create(discipline=discipline), add_method(0, 0, WAITS), add_client(), request(timeout=5000)]
    return calls + [request(timeout=timeout) for timeout in timeouts]


class Disciplines(TalkCase):
    def check_order(self, discipline, timeouts, order):
        """The queue is listed in this order, and started in it too."""
        calls = queued(discipline, timeouts)
        self.assertEqual(replies(calls + [list_queue()])[-1], [len(order)] + order)
        for turn, execution in enumerate(order):
            calls += [run(1), list_queue(), execution_info(execution)]
            found = replies(calls)
            now = 80 * (turn + 1)
            self.assertEqual(found[-2], [len(order) - turn - 1] + order[turn + 1:])
            self.assertEqual(found[-1][3:6], [1, now + 80, now])

    def test_0_the_smallest_number_first(self):
        self.check_order(0, [2000, 900, 3000, 900], [1, 2, 3, 4])

    def test_1_the_smallest_deadline_first_and_with_ties_the_smallest_number(self):
        self.check_order(1, [2000, 900, 3000, 900], [2, 4, 1, 3])
        self.check_order(1, [900, 900, 900], [1, 2, 3])
        self.check_order(1, [902, 901, 900, 901], [3, 2, 4, 1])

    def test_2_the_greatest_number_first(self):
        self.check_order(2, [2000, 900, 3000, 900], [4, 3, 2, 1])

    def test_an_empty_queue(self):
        for discipline in range(3):
            self.check((create(discipline=discipline), 0), (list_queue(), 0))
            self.assertEqual(replies(queued(discipline, []) + [list_queue()])[-1], [0])

    def test_1_counts_the_deadlines_and_not_the_timeouts(self):
        rows = [(row,) for row in queued(1, [500])]
        self.check(*rows, (advance(50), 0, 50), (request(timeout=440), 2, 0), (request(timeout=450), 3, 0),
                   (request(timeout=460), 4, 0), (list_queue(), 4, 2, 1, 3, 4))

    def test_1_a_joined_request_may_bring_an_execution_ahead(self):
        rows = [(row,) for row in queued(1, [500])]
        self.check(
            *rows,
            (request(timeout=600, key=4), 2, 0),
            (request(timeout=700), 3, 0),
            (list_queue(), 3, 1, 2, 3),
            (request(timeout=900, key=4), 4, 0),
            (list_queue(), 3, 1, 2, 3),
            (request(timeout=400, key=4), 5, 0),
            (list_queue(), 3, 2, 1, 3),
            # Only open requests count: without the joined one it is the second again, then the last.
            (cancel(5), 0),
            (list_queue(), 3, 1, 2, 3),
            (cancel(2), 0),
            (list_queue(), 3, 1, 3, 2),
        )

    def test_other_disciplines_do_not_look_at_deadlines(self):
        for discipline, order in ((0, [1, 2]), (2, [2, 1])):
            rows = [(row,) for row in queued(discipline, [500])]
            self.check(*rows, (request(timeout=600, key=4), 2, 0), (list_queue(), 2, *order),
                       (request(timeout=10, key=4), 3, 0), (list_queue(), 2, *order))


class Starting(TalkCase):
    def test_as_many_as_limit_run_at_once(self):
        for limit in range(1, 9):
            rows = [(create(limit=limit), 0), (add_method(0, 0, WAITS), 0), (add_client(), 0)]
            rows += [(request(), number, 0) for number in range(limit + 2)]
            rows += [(execution_info(number), 0, 0, 0, 1, 80, 0, 0, 1, 1, 0) for number in range(limit)]
            rows += [(list_queue(), 2, limit, limit + 1), (execution_info(limit), 0, 0, 0, 0, 0, 0, 0, 0, 1, 0)]
            self.check(*rows)

    def test_executions_that_end_at_once_start_the_next_ones(self):
        self.check(
            (create(), 0),
            (add_method(0, 0, WAITS), 0),
            (add_method(0, 0, [3, 0]), 1),
            (add_client(), 0),
            (request(), 0, 0),
            (request(method=1, payload=[1]), 1, 0),
            (request(method=1, payload=[20]), 2, 0),
            (request(), 3, 0),
            (request(method=1, payload=[300]), 4, 0),
            (run(1), 80),
            (response(1), 1, 1),
            (response(2), 1, 21),
            (execution_info(1), 0, 0, 1, 2, 0, 80, 80, 1, 0, 1),
            (execution_info(3), 0, 0, 0, 1, 160, 80, 0, 1, 1, 0),
            (request_info(2), 1, 0, 0, 1000, 3, 0, 80, 0),
            (list_queue(), 1, 4),
            (run(1), 160),
            (response(4), 1, 321),
        )

    def test_they_are_started_in_the_order_of_the_queue(self):
        self.check(
            (create(discipline=2), 0), (add_method(0, 0, WAITS), 0), (add_method(0, 0, [3, 0]), 1), (add_client(), 0),
            (request(), 0, 0), (request(method=1, payload=[1]), 1, 0), (request(method=1, payload=[20]), 2, 0),
            (run(1), 80), (response(2), 1, 20), (response(1), 1, 21),
        )

    def test_a_free_slot_lets_a_request_start_at_its_arrival(self):
        self.check(
            (create(queue_limit=0), 0), (add_method(0, 0, WAITS), 0), (add_client(), 0), (advance(6), 0, 6),
            (request(), 0, 0), (execution_info(0), 0, 0, 0, 1, 86, 6, 0, 1, 1, 0),
        )

    def test_a_slot_is_free_behind_an_execution_that_ended_at_once(self):
        self.check(
            (create(queue_limit=0), 0), (add_method(0, 0, [1, 4]), 0), (add_client(), 0),
            (request(), 0, 1), (request(), 1, 1), (list_queue(), 0),
        )

    def test_each_way_to_free_a_slot_starts_the_next(self):
        for freeing, now in ((cancel(0), 0), (advance(80), 80), (run(1), 80)):
            found = replies(queued(0, [900]) + [freeing, execution_info(1)])
            self.assertEqual(found[-1], [0, 0, 0, 1, now + 80, now, 0, 1, 1, 0])
        calls = [create(), add_method(0, 0, WAITS), add_client(), request(timeout=30), request(), advance(30)]
        self.assertEqual(replies(calls + [execution_info(1)])[-1], [0, 0, 0, 1, 110, 30, 0, 1, 1, 0])


class Abandoned(TalkCase):
    def test_a_queued_execution_is_dropped(self):
        for key in (0, 5):
            self.check(
                (create(), 0),
                (add_method(0, 0, [1, 3, 0, 80]), 0),
                (add_client(), 0),
                (request(), 0, 0),
                (request(key=key, timeout=40), 1, 0),
                (request(key=key + 1), 2, 0),
                (advance(15), 0, 15),
                (cancel(2), 0),
                (execution_info(2), 0, key + 1, 0, 3, 0, 0, 15, 0, 0, 0),
                (list_queue(), 1, 1),
                (advance(25), 1, 40),
                (execution_info(1), 0, key, 0, 3, 0, 0, 40, 0, 0, 0),
                (request_info(1), 5, 0, 0, 40, 2, 0, 40, 0),
                (request_info(2), 2, 0, 0, 1000, 3, 0, 15, 0),
                (list_queue(), 0),
                (advance(1000), 1, 1040),
                (execution_info(1), 0, key, 0, 3, 0, 0, 40, 0, 0, 0),
                (response(0), 1, 3),
            )

    def check_left(self, key, behind):
        """Request 0 leaves its running execution, by a cancel or at its deadline; behind tells what follows then.

        Method 0 emits 3, waits until 80 and adds 5 to register 1, which method 1 emits.
        """
        for ending, now, status in ((cancel(0), 20, 1), (advance(10), 30, 4)):
            left = (request_info(0), status + 1, 0, 0, 30, 1, 0, now, 0)
            self.check(
                (create(), 0),
                (add_method(0, 0, [1, 3, 0, 80, 3, 1]), 0),
                (add_method(0, 0, [6, 1]), 1),
                (add_client(), 0),
                (request(timeout=30, payload=[5], key=key), 0, 0),
                (request(method=1), 1, 0),
                (advance(20), 0, 20),
                (ending,),
                left,
                *behind(now),
                # What the request ended with stays, whatever becomes of the execution.
                left,
                (response(0), -33),
            )

    def test_a_running_execution_without_a_key_is_stopped(self):
        self.check_left(0, lambda now: [
            (execution_info(0), 0, 0, 0, 2, 1, 0, now, 2, 0, 1),
            (request_info(1), 1, 0, 0, 1000, 2, 0, now, 0),
            (next_event(), -33),
            (advance(100), 0, now + 100),
            (execution_info(0), 0, 0, 0, 2, 1, 0, now, 2, 0, 1),
            (request(method=1), 2, 1),
            (response(2), 1, 0),
        ])

    def test_a_running_execution_with_a_key_goes_on(self):
        self.check_left(9, lambda now: [
            (execution_info(0), 0, 9, 0, 1, 80, 0, 0, 2, 0, 1),
            (list_queue(), 1, 1),
            (next_event(), 80, 0, 0),
            (advance(80 - now), 1, 80),
            (execution_info(0), 0, 9, 0, 2, 0, 0, 80, 3, 0, 2),
            (response(1), 1, 5),
        ])

    def test_an_execution_with_another_open_request_is_not_abandoned(self):
        for slots in (1, 2):
            rows = [
                (create(limit=slots), 0),
                (add_method(0, 0, [0, 80, 1, 3]), 0),
                (add_client(), 0),
                (request(), 0, 0),
                (request(key=5, timeout=30), 1, 0),
                (request(key=5), 2, 0),
                (request(key=5), 3, 0),
                (cancel(2), 0),
            ]
            state = [0, 0, 0, 0] if slots == 1 else [1, 80, 0, 0]
            executed = slots - 1
            rows += [
                (execution_info(1), 0, 5, 0, *state, executed, 2, 0),
                (advance(30), 1, 30),
                (execution_info(1), 0, 5, 0, *state, executed, 1, 0),
                (run(9),),
                (response(1), -33),
                (response(2), -33),
                (response(3), 1, 3),
            ]
            self.check(*rows)

    def test_an_abandoned_execution_may_be_joined_again(self):
        self.check(
            (create(), 0), (add_method(0, 0, [0, 80, 1, 3]), 0), (add_client(), 0),
            (request(key=5), 0, 0), (cancel(0), 0), (execution_info(0), 0, 5, 0, 1, 80, 0, 0, 1, 0, 0),
            (advance(10), 0, 10), (request(key=5), 1, 0), (request_info(1), 0, 0, 10, 1010, 1, 1, 0, 0),
            (execution_info(0), 0, 5, 0, 1, 80, 0, 0, 1, 1, 0), (advance(70), 1, 80), (response(1), 1, 3),
        )
        # Left alone a second time it still goes on.
        self.check(
            (create(), 0), (add_method(0, 0, [0, 80, 1, 3]), 0), (add_client(), 0),
            (request(key=5), 0, 0), (cancel(0), 0), (request(key=5), 1, 0), (cancel(1), 0),
            (execution_info(0), 0, 5, 0, 1, 80, 0, 0, 1, 0, 0), (next_event(), 80, 0, 0),
        )

    def test_a_program_that_ends_with_status_1_or_4_abandons_nothing(self):
        for status in (1, 4):
            self.check(
                (create(), 0), (add_method(0, 0, [0, 5, 4, status]), 0), (add_client(), 0),
                (request(), 0, 0), (request(key=3), 1, 0), (advance(5), 1, 5),
                (execution_info(0), 0, 0, 0, 2, status, 0, 5, 2, 0, 0), (request_info(0), status + 1, 0, 0, 1000, 1, 0, 5, 0),
                (execution_info(1), 0, 3, 0, 1, 10, 5, 0, 1, 1, 0),
            )
