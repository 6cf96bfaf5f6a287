"""Programs: each code, called methods, waits, and the bounds of instructions and of emitted values."""

from talk import (TalkCase, add_client, add_method, advance, create, execution_info, next_event, replies,
                  request, request_info, response, run)

# With an empty payload an instruction of code 2 does nothing but count.
IDLE = [2, 0]


class OneProgram(TalkCase):
    def check_end(self, programs, payload, status, executed, emitted):
        """The last of these programs ends at once so; emitted is how many values, or the values at status 0."""
        calls = [create()] + [add_method(0, 0, program) for program in programs]
        calls += [add_client(), request(method=len(programs) - 1, payload=payload), execution_info(0), response(0)]
        found = replies(calls)
        self.assertEqual(found[-3], [0, status + 1])
        count = len(emitted) if status == 0 else emitted
        self.assertEqual(found[-2], [0, 0, len(programs) - 1, 2, status, 0, 0, executed, 0, count])
        self.assertEqual(found[-1], [len(emitted)] + emitted if status == 0 else [-33])


class Codes(OneProgram):
    def test_no_instruction(self):
        self.check_end([[]], [5], 0, 0, [])

    def test_1_emits_its_argument(self):
        self.check_end([[1, 0, 1, 1000, 1, 7]], [5], 0, 3, [0, 1000, 7])

    def test_2_emits_the_payload(self):
        self.check_end([[2, 0]], [], 0, 1, [])
        self.check_end([[2, 0]], [9, 0, 1000], 0, 1, [9, 0, 1000])
        self.check_end([[2, 0, 1, 4, 2, 0]], [9, 8], 0, 3, [9, 8, 4, 9, 8])

    def test_3_adds_the_payload_and_emits_the_new_value(self):
        self.check_end([[3, 0]], [], 0, 1, [0])
        self.check_end([[3, 0, 3, 0, 3, 3, 3, 0]], [9, 8], 0, 4, [17, 34, 17, 51])
        self.check_end([[3, 2]], [1000] * 8, 0, 1, [8000])

    def test_4_ends_with_its_status(self):
        for status in (1, 4, 8, 12, 16):
            self.check_end([[1, 3, 4, status, 1, 4]], [], status, 2, 1)

    def test_5_executes_the_other_program_with_the_same_payload(self):
        self.check_end([[2, 0, 3, 1], [1, 5, 5, 0, 1, 6]], [3, 4], 0, 5, [5, 3, 4, 7, 6])
        self.check_end([[], [5, 0, 5, 0, 1, 6]], [3, 4], 0, 3, [6])

    def test_5_goes_on_behind_the_call_however_deep(self):
        programs = [[1, 1], [5, 0, 1, 2], [1, 3, 5, 1, 5, 0, 1, 4], [5, 2, 5, 1], [5, 3], [5, 4, 1, 9]]
        self.check_end(programs, [], 0, 16, [3, 1, 2, 1, 4, 1, 2, 9])

    def test_5_a_status_in_a_called_method_ends_all(self):
        self.check_end([[1, 1, 4, 9, 1, 2], [1, 3, 5, 0, 1, 4], [5, 1, 1, 5]], [], 9, 5, 2)

    def test_6_emits_a_register_as_it_is(self):
        self.check_end([[6, 0, 6, 3]], [4], 0, 2, [0, 0])
        self.check_end([[6, 1, 3, 1, 6, 1, 6, 1, 6, 2]], [4], 0, 5, [0, 4, 4, 4, 0])

    def test_registers_are_the_server_s(self):
        self.check(
            (create(), 0),
            (add_method(0, 0, [3, 1]), 0),
            (add_method(0, 0, [6, 0, 6, 1, 6, 2, 6, 3]), 1),
            (add_client(), 0),
            (add_client(), 1),
            (request(0, payload=[2, 3]), 0, 1),
            (request(1, payload=[10]), 1, 1),
            (request(1, method=1), 2, 1),
            (response(0), 1, 5),
            (response(1), 1, 15),
            (response(2), 4, 0, 15, 0, 0),
        )


class Waits(TalkCase):
    def test_0_waits_for_its_argument(self):
        self.check(
            (create(), 0),
            (add_method(0, 0, [3, 0, 0, 10000, 3, 0, 0, 1, 6, 0]), 0),
            (add_client(), 0),
            (request(timeout=100000, payload=[4]), 0, 0),
            (execution_info(0), 0, 0, 0, 1, 10000, 0, 0, 2, 1, 1),
            (next_event(), 10000, 0, 0),
            (advance(9999), 0, 9999),
            (advance(1), 1, 10000),
            (execution_info(0), 0, 0, 0, 1, 10001, 0, 0, 4, 1, 2),
            (advance(1), 1, 10001),
            (execution_info(0), 0, 0, 0, 2, 0, 0, 10001, 5, 0, 3),
            (response(0), 3, 4, 8, 8),
        )

    def test_a_wait_of_0_goes_on_with_an_event_of_the_present_time(self):
        self.check(
            (create(), 0),
            (add_method(0, 0, [1, 5, 0, 0, 1, 6, 0, 0]), 0),
            (add_client(), 0),
            (advance(3), 0, 3),
            (request(), 0, 0),
            (execution_info(0), 0, 0, 0, 1, 3, 3, 0, 2, 1, 1),
            (next_event(), 3, 0, 0),
            (run(1), 3),
            (execution_info(0), 0, 0, 0, 1, 3, 3, 0, 4, 1, 2),
            (next_event(), 3, 0, 0),
            (request_info(0), 0, 0, 3, 1003, 1, 0, 0, 0),
            (advance(0), 1, 3),
            (request_info(0), 1, 0, 3, 1003, 1, 0, 3, 0),
            (next_event(), -33),
        )

    def test_several_waits_of_0_within_one_advance(self):
        self.check(
            (create(), 0), (add_method(0, 0, [0, 0] * 8), 0), (add_client(), 0),
            (request(), 0, 0), (advance(0), 8, 0), (request_info(0), 1, 0, 0, 1000, 1, 0, 0, 0),
        )

    def test_a_wait_at_the_end_of_a_program_is_waited_for(self):
        self.check(
            (create(), 0), (add_method(0, 0, [0, 6]), 0), (add_client(), 0), (request(), 0, 0),
            (advance(5), 0, 5), (request_info(0), 0, 0, 0, 1000, 1, 0, 0, 0),
            (advance(1), 1, 6), (request_info(0), 1, 0, 0, 1000, 1, 0, 6, 0),
        )

    def test_a_wait_in_a_called_method(self):
        self.check(
            (create(), 0),
            (add_method(0, 0, [0, 4, 1, 1]), 0),
            (add_method(0, 0, [5, 0, 1, 2]), 1),
            (add_method(0, 0, [5, 1, 5, 0, 1, 3]), 2),
            (add_client(), 0),
            (request(method=2), 0, 0),
            (execution_info(0), 0, 0, 2, 1, 4, 0, 0, 3, 1, 0),
            (advance(7), 1, 7),
            (execution_info(0), 0, 0, 2, 1, 8, 0, 0, 7, 1, 2),
            (advance(1), 1, 8),
            (response(0), 4, 1, 2, 1, 3),
            (execution_info(0), 0, 0, 2, 2, 0, 0, 8, 9, 0, 4),
        )

    def test_another_execution_may_change_a_register_meanwhile(self):
        self.check(
            (create(limit=2), 0), (add_method(0, 0, [6, 0, 0, 5, 6, 0]), 0), (add_method(0, 0, [3, 0]), 1),
            (add_client(), 0), (request(), 0, 0), (request(method=1, payload=[9]), 1, 1), (advance(5), 1, 5),
            (response(0), 2, 0, 9),
        )


class MostInstructions(OneProgram):
    # With their calls these count 8, 1 + 8 for a call of it, and 8 + 8 * 8 = 72.
    eight = IDLE * 8
    seventy_two = [5, 0] * 8

    def test_just_100(self):
        self.check_end([self.eight, self.seventy_two, [5, 1, 5, 0, 5, 0, 5, 0]], [], 0, 100, [])

    def test_one_more_is_not_executed(self):
        hundred = [5, 1, 5, 0, 5, 0, 5, 0]
        self.check_end([self.eight, self.seventy_two, hundred + IDLE], [], 8, 100, 0)
        self.check_end([self.eight, self.seventy_two, hundred + [1, 5]], [], 8, 100, 0)
        self.check_end([self.eight, self.seventy_two, hundred + [4, 3]], [], 8, 100, 0)
        self.check_end([self.eight, self.seventy_two, hundred + [0, 3]], [], 8, 100, 0)
        self.check_end([self.eight, self.seventy_two, hundred + [5, 0]], [], 8, 100, 0)

    def test_the_call_of_an_empty_program_as_the_100th(self):
        # 73 and 9 and 9 for calls, 5 for the call of a program of 4, then 3 and the last call.
        programs = [[], self.eight, [5, 1] * 8, IDLE * 4, [5, 2, 5, 1, 5, 1, 5, 3] + IDLE * 3 + [5, 0]]
        self.check_end(programs, [], 0, 100, [])

    def test_no_program_ends_past_100(self):
        self.check_end([self.eight, self.seventy_two, [5, 1] * 8], [], 8, 100, 0)

    def test_waits_count_too(self):
        calls = [create(), add_method(0, 0, [0, 0] * 8), add_method(0, 0, [5, 0] * 8), add_method(0, 0, [5, 1] * 2),
                 add_client(), request(method=2)]
        found = replies(calls + [run(40), run(40), next_event(), execution_info(0), run(40), execution_info(0)])
        self.assertEqual(found[-4], [0, 0, 0])
        self.assertEqual(found[-3][3:8], [1, 0, 0, 0, 94])
        self.assertEqual(found[-1], [0, 0, 2, 2, 8, 0, 0, 100, 0, 0])


class MostEmitted(OneProgram):
    eight = [1, 1, 1, 2, 1, 3, 1, 4, 1, 5, 1, 6, 1, 7, 1, 8]
    eight_values = [1, 2, 3, 4, 5, 6, 7, 8]

    def test_just_40(self):
        self.check_end([[2, 0] * 5], [1, 2, 3, 4, 5, 6, 7, 8], 0, 5, self.eight_values * 5)
        self.check_end([self.eight, [5, 0] * 5], [], 0, 45, self.eight_values * 5)

    def test_nothing_more_may_be_added_to_40(self):
        for last in ([1, 0], [3, 0], [6, 0]):
            self.check_end([self.eight, [5, 0] * 5 + last], [], 8, 46, 40)
            self.check_end([self.eight, [5, 0] * 5 + last + [1, 1, 4, 3]], [], 8, 46, 40)
        self.check_end([[2, 0] * 6], [0] * 8, 8, 6, 40)

    def test_an_instruction_that_adds_nothing_may_follow(self):
        self.check_end([self.eight, [5, 0] * 5 + [2, 0]], [], 0, 46, self.eight_values * 5)
        self.check_end([self.eight, [5, 0] * 5 + [4, 3]], [], 3, 46, 40)

    def test_a_payload_is_emitted_whole_or_not_at_all(self):
        self.check_end([[2, 0] * 5 + [1, 9]], [0] * 7, 0, 6, [0] * 35 + [9])
        self.check_end([[2, 0] * 6], [0] * 7, 8, 6, 35)
        self.check_end([[2, 0] * 5 + [1, 9, 2, 0]], [0] * 7, 8, 7, 36)
        self.check_end([[2, 0] * 8], [0] * 5, 0, 8, [0] * 40)

    def test_an_addition_to_a_register_remains(self):
        self.check(
            (create(), 0),
            (add_method(0, 0, [2, 0] * 5 + [3, 2, 3, 2]), 0),
            (add_method(0, 0, [6, 2]), 1),
            (add_client(), 0),
            (request(payload=[1] * 8), 0, 9),
            (execution_info(0), 0, 0, 0, 2, 8, 0, 0, 6, 0, 40),
            (request(method=1), 1, 1),
            (response(1), 1, 8),
        )

    def test_across_waits(self):
        self.check(
            (create(), 0),
            (add_method(0, 0, [2, 0, 2, 0, 2, 0, 0, 5, 2, 0, 2, 0, 2, 0]), 0),
            (add_client(), 0),
            (request(payload=[1] * 8), 0, 0),
            (execution_info(0), 0, 0, 0, 1, 5, 0, 0, 4, 1, 24),
            (advance(5), 1, 5),
            (execution_info(0), 0, 0, 0, 2, 8, 0, 5, 7, 0, 40),
            (request_info(0), 9, 0, 0, 1000, 1, 0, 5, 0),
        )
