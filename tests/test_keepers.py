"""Point 2: stop, wake, quit, resend and alone."""

import unittest

from helper import MOST, check

# Nothing of customer 0's writing of 7 is under way: they're asking, or telling.
ASKING = "begin 3 2 2 2 1\nwrite 0 7\n3 * lose 0\n"
TELLING = "begin 3 2 1 2 1\nwrite 0 7\ndeliver 0\ndeliver 2 = 3\n5 * lose 0\n"


class StopAndWake(unittest.TestCase):
    def test_it_stops_and_wakes(self):
        check(self, """
            begin 2 1 1 1 1 = 0
            stop 0 = 0
            stop 0 = -16
            stop 1 = 0
            stop 1 = -16
            wake 0 = 0
            wake 0 = -16
            stop 1 = -16
            wake 1 = 0
            wake 1 = -16
            stop 0 = 0
        """)

    def test_no_such_machine(self):
        for machines in range(1, 6):
            for machine in (machines, 5, 6, MOST):
                check(self, f"begin {machines} 4 1 1 1 = 0\nstop {machine} = -2\nwake {machine} = -2\nwake 0 = -16")

    def test_a_machine_that_has_stopped_answers_and_hears_nothing(self):
        check(self, """
            begin 2 1 1 1 1 = 0
            write 0 7 = 0
            stop 0 = 0
            deliver 0 = 0
            deliver 0 = 1
            deliver 0 = 3
            deliver 0 = 0
            deliver 0 = 1
            deliver 0 = 4 0 7
            deliver 0 = -2
        """)

    def test_what_is_under_way_from_one_that_has_stopped_still_comes(self):
        check(self, "begin 1 1 1 1 0 = 0\nread 0 = 0\ndeliver 0 = 1\nstop 0 = 0\ndeliver 0 = 4 0 0")

    def test_one_that_wakes_has_what_it_had(self):
        check(self, """
            begin 1 2 1 1 0 = 0
            write 0 7 = 0
            alone 0 = 4 1
            stop 0 = 0
            wake 0 = 0
            read 1 = 1
            deliver 0 = 1
            deliver 0 = 4 1 7
        """)

    def test_one_that_stopped_keeps_nothing_told_meanwhile(self):
        check(self, """
            begin 1 2 1 1 0 = 0
            write 0 7 = 0
            2 * deliver 0
            again 0 = 2
            stop 0 = 0
            deliver 0 = 0
            wake 0 = 0
            read 1 = 1
            deliver 1 = 1
            deliver 1 = 4 1 0
            deliver 0 = 1
            deliver 0 = 4 0 7
        """)


class Quit(unittest.TestCase):
    def test_they_leave_idle_asking_or_telling(self):
        check(self, "begin 3 2 2 2 1 = 0\nquit 0 = 0\nquit 0 = -16\nquit 1 = 0\nquit 1 = -16")
        check(self, ASKING + "quit 0 = 0\nquit 0 = -16\nquit 1 = 0")
        check(self, TELLING + "quit 0 = 0\nquit 0 = -16\nquit 1 = 0")

    def test_no_such_customer(self):
        for customers in range(1, 5):
            for customer in (customers, 4, 5, MOST):
                check(self, f"begin 5 {customers} 1 1 1 = 0\nquit {customer} = -2")

    def test_one_who_has_left_does_nothing_any_more(self):
        for work in ("begin 3 2 2 2 1\n", ASKING, TELLING):
            check(self, work + """
                quit 0 = 0
                write 0 8 = -16
                read 0 = -16
                resend 0 = -16
                alone 0 = -16
                quit 0 = -16
                read 1
            """)


class Resend(unittest.TestCase):
    def test_how_many_are_under_way(self):
        check(self, ASKING + "resend 0 = 3\nresend 0 = 6\nlose 0 = 5\nread 1 = 1\nresend 1 = 11")
        check(self, TELLING + "resend 0 = 3\nresend 0 = 6")

    def test_one_who_is_asking_asks_all_machines_again(self):
        check(self, ASKING + """
            resend 0 = 3
            stop 1 = 0
            deliver 0 = 1
            deliver 0 = 0
            deliver 0 = 1
            deliver 0 = 2
            deliver 0 = 3
        """)

    def test_one_who_is_telling_tells_all_machines_again(self):
        check(self, TELLING + """
            resend 0 = 3
            stop 0 = 0
            deliver 0 = 0
            deliver 0 = 1
            deliver 0 = 1
            deliver 1 = 2
            deliver 0 = 4 0 7
            read 1 = 1
            alone 1
        """)

    def test_told_again_is_the_tag_and_the_value_first_told(self):
        check(self, """
            begin 1 2 1 1 0 = 0
            write 0 7 = 0
            2 * deliver 0
            lose 0 = 0
            resend 0 = 1
            deliver 0 = 1
            deliver 0 = 4 0 7
            read 1 = 1
            deliver 0 = 1
            deliver 0 = 4 1 7
        """)

    def test_who_has_answered_stays_counted(self):
        check(self, """
            begin 3 1 2 2 1 = 0
            read 0 = 0
            deliver 0 = 1
            deliver 2 = 2
            resend 0 = 5
            deliver 2 = 1
            deliver 4 = 0
            deliver 0 = 1
            deliver 3 = 3
        """)

    def test_no_such_customer(self):
        for customers in range(1, 5):
            for customer in (customers, 4, 5, MOST):
                check(self, f"begin 5 {customers} 1 1 1 = 0\nresend {customer} = -2")

    def test_neither_asking_nor_telling(self):
        check(self, "begin 1 2 1 1 0 = 0\nresend 0 = -16\nread 0 = 0\nalone 0 = 2 1\nresend 0 = -16\nresend 1 = -16")
        check(self, ASKING + "quit 0 = 0\nresend 0 = -16")

    def test_sixty(self):
        check(self, "begin 5 1 1 1 1\nread 0\n" + "\n".join(
            f"resend 0 = {count}" for count in range(10, 61, 5)
        ) + "\nresend 0 = -28\nlose 0 = 59\nresend 0 = -28\n4 * lose 0\nresend 0 = 60")
        check(self, "begin 5 1 1 1 1\nread 0\n51 * again 0\nresend 0 = -28\nlose 0 = 55\nresend 0 = 60")

    def test_the_refusal_that_is_told_first(self):
        full = "begin 1 2 1 1 1\nread 0\n59 * again 0\n"
        check(self, full + "resend 2 = -2\nresend 1 = -16\nresend 0 = -28\nquit 0 = 0\nresend 0 = -16")


class Alone(unittest.TestCase):
    def test_how_many_came_and_whether_it_has_ended(self):
        check(self, "begin 1 1 1 1 1 = 0\nwrite 0 7 = 0\nalone 0 = 4 1\nread 0 = 1\nalone 0 = 4 1")
        check(self, "begin 1 1 1 1 0 = 0\nread 0 = 0\nalone 0 = 2 1\nlose 0 = -2")
        check(self, "begin 5 1 5 5 1 = 0\nwrite 0 7 = 0\nalone 0 = 20 1\nlose 0 = -2")
        check(self, "begin 5 1 1 1 1 = 0\nwrite 0 7 = 0\nalone 0 = 16 1\nlose 0 = 3")
        check(self, "begin 5 1 3 3 0 = 0\nread 0 = 0\nalone 0 = 8 1\nlose 0 = 1")

    def test_till_there_is_none(self):
        check(self, """
            begin 3 1 2 2 1 = 0
            write 0 7 = 0
            stop 0 = 0
            stop 1 = 0
            alone 0 = 4 0
            lose 0 = -2
            alone 0 = 0 0
            wake 1 = 0
            resend 0 = 3
            alone 0 = 10 1
        """)

    def test_only_what_is_of_that_customer_and_their_operation(self):
        # Customer 0's first reading left an answer behind, customer 1's asking is ahead of theirs.
        check(self, """
            begin 2 2 1 1 0 = 0
            read 0 = 0
            alone 0 = 3 1
            read 1 = 1
            read 0 = 2
            alone 0 = 3 1
            lose 0 = 3
            deliver 0 = 1
            deliver 0 = 1
            deliver 0 = 0
            deliver 0 = 4 1 0
        """)

    def test_the_first_under_way_comes_first(self):
        # Were machine 1's answer taken ahead of what was sent to machine 0, fewer would come.
        check(self, "begin 2 1 1 1 0 = 0\nread 0 = 0\nstop 0 = 0\nalone 0 = 3 1\ndeliver 0 = -2")
        check(self, "begin 2 1 1 1 0 = 0\nread 0 = 0\nstop 1 = 0\nalone 0 = 3 1\ndeliver 0 = -2")
        check(self, "begin 2 1 1 1 0 = 0\nread 0 = 0\nalone 0 = 3 1\ndeliver 0 = 0\ndeliver 0 = -2")

    def test_more_than_sixty_come(self):
        check(self, "begin 1 1 1 1 1 = 0\nread 0 = 0\n59 * again 0\nalone 0 = 122 1\nlose 0 = -2")
        check(self, """
            begin 2 1 2 2 1 = 0
            read 0 = 0
            58 * again 0
            stop 1 = 0
            alone 0 = 119 0
        """)

    def test_no_such_customer(self):
        for customers in range(1, 5):
            for customer in (customers, 4, 5, MOST):
                check(self, f"begin 5 {customers} 1 1 1 = 0\nalone {customer} = -2")

    def test_neither_asking_nor_telling(self):
        check(self, "begin 1 2 1 1 0 = 0\nalone 0 = -16\nread 0 = 0\nalone 0 = 2 1\nalone 0 = -16\nalone 1 = -16")
        check(self, ASKING + "quit 0 = 0\nalone 0 = -16")
        check(self, TELLING + "quit 0 = 0\nalone 0 = -16")

    def test_one_who_is_telling(self):
        check(self, TELLING + "alone 0 = 0 0\nresend 0 = 3\nalone 0 = 5 1\nread 1 = 1\nalone 1 = 11 1")
