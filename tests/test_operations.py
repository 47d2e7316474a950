"""Point 1: write and read."""

import unittest

from helper import MOST, check

# Nineteen readings that have ended, and a writing by customer 1 that has not.
TWENTY = "begin 1 4 1 1 0 = 0\n" + "\n".join(
    f"read 0 = {number}\nalone 0 = 2 1" for number in range(19)
) + "\nwrite 1 40 = 19\n"


class Write(unittest.TestCase):
    def test_its_number_is_how_many_were_begun_before_it(self):
        check(self, "begin 3 4 2 2 1 = 0\nwrite 3 5 = 0\nread 0 = 1\nwrite 2 6 = 2\nwrite 1 7 = 3")

    def test_it_asks_all_machines_in_the_order_of_their_numbers(self):
        for machine in range(5):
            answered = ["deliver 0 = 1"] * 5
            answered[machine] = "deliver 0 = 0"
            check(self, "\n".join(
                ["begin 5 1 5 5 1 = 0", f"stop {machine} = 0", "write 0 1 = 0"] + answered
            ))

    def test_it_is_sent_behind_all_others_to_stopped_ones_too(self):
        check(self, """
            begin 2 2 2 2 1 = 0
            write 0 1 = 0
            stop 0 = 0
            stop 1 = 0
            write 1 2 = 1
            again 0 = 5
            4 * lose 0
            wake 0 = 0
            deliver 0 = 1
            deliver 0 = 2
            resend 0 = 2
        """)

    def test_values_1_to_40(self):
        for value in (1, 2, 20, 39, 40):
            check(self, f"""
                begin 1 1 1 1 1 = 0
                write 0 {value} = 0
                deliver 0 = 1
                deliver 0 = 3
                deliver 0 = 1
                deliver 0 = 4 0 {value}
            """)

    def test_a_value_not_as_told(self):
        for value in (0, 41, 42, MOST):
            check(self, f"begin 1 1 1 1 1 = 0\nwrite 0 {value} = -22\nread 0 = 0")

    def test_no_such_customer(self):
        for customer in (2, 3, 4, MOST):
            check(self, f"begin 5 2 1 1 1 = 0\nwrite {customer} 1 = -2\nlose 0 = -2\nwrite 1 1 = 0")
        for customer in (4, 5, MOST):
            check(self, f"begin 1 4 1 1 1 = 0\nwrite {customer} 1 = -2\nwrite 3 1 = 0")

    def test_not_idle_while_asking_or_telling_or_when_they_left(self):
        check(self, """
            begin 1 2 1 1 1 = 0
            write 0 1 = 0
            write 0 2 = -16
            deliver 0 = 1
            write 0 2 = -16
            deliver 0 = 3
            write 0 2 = -16
            deliver 0 = 1
            write 0 2 = -16
            deliver 0 = 4 0 1
            write 0 2 = 1
            quit 1 = 0
            write 1 3 = -16
        """)

    def test_a_value_is_written_from_its_beginning_on(self):
        check(self, """
            begin 1 3 1 1 1 = 0
            write 0 7 = 0
            write 1 7 = -17
            alone 0 = 4 1
            write 0 7 = -17
            write 1 7 = -17
            write 1 8 = 1
            quit 1 = 0
            write 2 8 = -17
            write 2 9 = 2
        """)

    def test_a_value_is_not_written_by_being_read(self):
        check(self, """
            begin 1 2 1 1 0 = 0
            write 0 7 = 0
            alone 0 = 4 1
            read 1 = 1
            alone 1 = 2 1
            write 1 1 = 2
            write 0 2 = 3
        """)

    def test_the_20th_operation_and_the_21st(self):
        check(self, TWENTY + "write 0 3 = -28\nread 0 = -28\nread 2 = -28\nwrite 3 39 = -28")

    def test_the_20th_operation_may_be_a_reading(self):
        check(self, TWENTY.replace("write 1 40", "read 1") + "read 0 = -28\nwrite 2 40 = -28\nalone 1 = 2 1")

    def test_sixty_messages_and_more(self):
        check(self, "begin 5 4 3 3 1\nwrite 0 1\n50 * again 0\nwrite 1 2 = 1\nwrite 2 3 = -28\nread 2 = -28")
        check(self, "begin 5 4 3 3 1\nwrite 0 1\n50 * again 0\nread 1 = 1\nlose 0 = 59\nwrite 2 3 = -28")
        check(self, "begin 5 4 3 3 1\nwrite 0 1\n51 * again 0\nwrite 1 2 = -28\nlose 0 = 55\nwrite 1 2 = 1")
        check(self, "begin 1 4 1 1 1\nwrite 0 1\n58 * again 0\nwrite 1 2 = 1\nlose 0 = 59\nread 2 = 2\nread 3 = -28")

    def test_the_refusal_that_is_told_first(self):
        full = "begin 1 2 1 1 1\nwrite 0 7\n59 * again 0\n"
        check(self, f"begin 1 1 1 1 1\nwrite 1 0 = -2\nwrite 1 41 = -2\nwrite {MOST} {MOST} = -2")
        check(self, full + "write 2 0 = -2\nwrite 0 0 = -22\nwrite 0 41 = -22\nwrite 1 41 = -22")
        check(self, full + "write 2 7 = -2\nwrite 0 7 = -16\nwrite 0 8 = -16\nwrite 1 7 = -17\nwrite 1 8 = -28")
        check(self, TWENTY + "write 4 40 = -2\nwrite 1 0 = -22\nwrite 1 40 = -16\nwrite 0 40 = -17\nwrite 0 39 = -28")


class Read(unittest.TestCase):
    def test_its_number_is_how_many_were_begun_before_it(self):
        check(self, "begin 3 4 2 2 1 = 0\nread 3 = 0\nwrite 0 7 = 1\nread 2 = 2\nread 1 = 3")

    def test_it_asks_all_machines_in_the_order_of_their_numbers(self):
        for machine in range(5):
            answered = ["deliver 0 = 1"] * 5
            answered[machine] = "deliver 0 = 0"
            check(self, "\n".join(
                ["begin 5 1 5 5 0 = 0", f"stop {machine} = 0", "read 0 = 0"] + answered
            ))

    def test_no_such_customer(self):
        for customer in (2, 3, 4, MOST):
            check(self, f"begin 5 2 1 1 1 = 0\nread {customer} = -2\nlose 0 = -2\nread 1 = 0")

    def test_not_idle_while_asking_or_telling_or_when_they_left(self):
        check(self, """
            begin 1 2 1 1 1 = 0
            read 0 = 0
            read 0 = -16
            deliver 0 = 1
            deliver 0 = 3
            read 0 = -16
            deliver 0 = 1
            read 0 = -16
            deliver 0 = 4 0 0
            read 0 = 1
            quit 1 = 0
            read 1 = -16
        """)

    def test_the_refusal_that_is_told_first(self):
        check(self, "begin 1 2 1 1 1\nread 0\n59 * again 0\nread 2 = -2\nread 0 = -16\nread 1 = -28")
        check(self, TWENTY + "read 4 = -2\nread 1 = -16\nread 0 = -28")

    def test_many_readings_of_one_value(self):
        check(self, """
            begin 3 4 2 2 0 = 0
            write 0 40 = 0
            alone 0 = 11 1
            read 1 = 1
            alone 1 = 5 1
            read 2 = 2
            alone 2 = 5 1
            read 2 = 3
            alone 2 = 5 1
        """)
