"""Point 2: deliver, lose and again."""

import unittest

from helper import MOST, check


class Deliver(unittest.TestCase):
    def test_one_machine(self):
        check(self, """
            begin 1 1 1 1 1 = 0
            write 0 7 = 0
            deliver 0 = 1
            deliver 0 = 3
            deliver 0 = 1
            deliver 0 = 4 0 7
            deliver 0 = -2
            read 0 = 1
            deliver 0 = 1
            deliver 0 = 3
            deliver 0 = 1
            deliver 0 = 4 1 7
            deliver 0 = -2
        """)

    def test_readers_that_do_not_tell_it_on(self):
        check(self, """
            begin 2 2 2 2 0 = 0
            write 0 40 = 0
            2 * deliver 0 = 1
            deliver 0 = 2
            deliver 0 = 3
            2 * deliver 0 = 1
            deliver 0 = 2
            deliver 0 = 4 0 40
            read 1 = 1
            2 * deliver 0 = 1
            deliver 1 = 2
            deliver 0 = 4 1 40
            deliver 0 = -2
        """)

    def test_any_order(self):
        check(self, """
            begin 3 1 2 2 1 = 0
            write 0 7 = 0
            deliver 2 = 1
            deliver 2 = 2
            deliver 1 = 1
            deliver 1 = 3
            deliver 0 = 1
            deliver 2 = 1
            deliver 2 = 0
            deliver 0 = 1
            deliver 1 = 2
            lose 1 = 1
            deliver 0 = 1
            deliver 0 = 4 0 7
            deliver 0 = -2
        """)

    def test_no_such_message(self):
        check(self, "begin 3 1 2 2 1 = 0\ndeliver 0 = -2\nwrite 0 7 = 0\ndeliver 3 = -2\ndeliver 2 = 1\ndeliver 3 = -2")
        for message in (3, 60, MOST):
            check(self, f"begin 3 1 2 2 1 = 0\nwrite 0 7 = 0\ndeliver {message} = -2\nlose 0 = 2")

    def test_what_came_is_not_under_way_any_more(self):
        check(self, """
            begin 3 1 2 2 1 = 0
            write 0 7 = 0
            stop 1 = 0
            deliver 1 = 0
            again 0 = 3
            lose 2 = 2
            deliver 0 = 1
            again 0 = 3
            deliver 1 = 2
            again 0 = 3
        """)

    def test_telling_sends_to_all_machines_behind_all_others(self):
        check(self, """
            begin 4 2 1 4 1 = 0
            write 0 7 = 0
            read 1 = 1
            deliver 0 = 1
            deliver 7 = 3
            again 0 = 12
            lose 11 = 11
            stop 3 = 0
            deliver 10 = 0
            deliver 9 = 1
            deliver 9 = 2
            deliver 8 = 1
            deliver 8 = 2
            deliver 7 = 1
            deliver 7 = 2
            deliver 0 = 1
        """)

    def test_telling_sends_past_sixty(self):
        check(self, """
            begin 5 4 1 5 1 = 0
            write 0 1 = 0
            read 1 = 1
            deliver 0 = 1
            deliver 4 = 1
            50 * again 0
            again 0 = -28
            deliver 8 = 3
            lose 0 = 63
            deliver 7 = 3
            lose 0 = 66
            again 0 = -28
            read 2 = -28
            resend 0 = -28
            alone 1
        """)

    def test_a_reader_knows_the_newest_in_whatever_order_it_is_answered(self):
        # Machine 0 keeps 8, machine 2 keeps 7, which is older, machine 1 keeps 0.
        kept = """
            begin 3 2 3 1 0 = 0
            write 0 7 = 0
            3 * deliver 0 = 1
            2 * deliver 0 = 2
            deliver 0 = 3
            lose 0 = 2
            lose 0 = 1
            deliver 0 = 1
            deliver 0 = 4 0 7
            write 0 8 = 1
            3 * deliver 0 = 1
            2 * deliver 0 = 2
            deliver 0 = 3
            lose 2 = 2
            lose 1 = 1
            deliver 0 = 1
            deliver 0 = 4 1 8
            read 1 = 2
            3 * deliver 0 = 1
        """
        for first in range(3):
            for second in range(2):
                check(self, kept + f"deliver {first} = 2\ndeliver {second} = 2\ndeliver 0 = 4 2 8")

    def test_a_machine_does_not_fall_back_to_an_older_tag(self):
        check(self, """
            begin 1 3 1 1 0 = 0
            write 0 7 = 0
            deliver 0 = 1
            deliver 0 = 3
            again 0 = 2
            deliver 0 = 1
            deliver 1 = 4 0 7
            write 1 8 = 1
            deliver 1 = 1
            deliver 1 = 3
            deliver 1 = 1
            deliver 1 = 4 1 8
            deliver 0 = 1
            deliver 0 = 0
            read 2 = 2
            deliver 0 = 1
            deliver 0 = 4 2 8
        """)

    def test_a_writer_tells_a_number_one_greater_than_the_one_they_know(self):
        # Customer 0's second writing is newer than customer 3's first, though 3 is greater than 0.
        check(self, """
            begin 1 4 1 1 0 = 0
            write 3 7 = 0
            deliver 0 = 1
            deliver 0 = 3
            deliver 0 = 1
            deliver 0 = 4 0 7
            write 0 8 = 1
            deliver 0 = 1
            deliver 0 = 3
            deliver 0 = 1
            deliver 0 = 4 1 8
            read 1 = 2
            deliver 0 = 1
            deliver 0 = 4 2 8
        """)

    def test_an_operation_that_has_ended_leaves_its_customer_idle(self):
        check(self, """
            begin 1 1 1 1 0 = 0
            read 0 = 0
            alone 0 = 2 1
            alone 0 = -16
            resend 0 = -16
            read 0 = 1
            deliver 0 = 1
            deliver 0 = 4 1 0
        """)

    def test_what_is_known_is_forgotten_from_one_operation_to_the_next(self):
        # The second time machine 0, which keeps nothing new, is the only one asked.
        check(self, """
            begin 2 2 1 1 0 = 0
            write 0 7 = 0
            lose 0 = 1
            deliver 0 = 1
            deliver 0 = 3
            lose 0 = 1
            deliver 0 = 1
            deliver 0 = 4 0 7
            read 1 = 1
            lose 0 = 1
            deliver 0 = 1
            deliver 0 = 4 1 7
            read 1 = 2
            lose 1 = 1
            deliver 0 = 1
            deliver 0 = 4 2 0
        """)


class Lose(unittest.TestCase):
    def test_how_many_are_under_way(self):
        check(self, """
            begin 3 2 2 2 1 = 0
            lose 0 = -2
            write 0 7 = 0
            read 1 = 1
            lose 5 = 5
            lose 5 = -2
            lose 0 = 4
            lose 1 = 3
            lose 2 = 2
            lose 0 = 1
            lose 0 = 0
            lose 0 = -2
        """)

    def test_no_such_message(self):
        for message in (3, 60, MOST):
            check(self, f"begin 3 1 2 2 1 = 0\nwrite 0 7 = 0\nlose {message} = -2\nlose 0 = 2")

    def test_it_does_not_come(self):
        check(self, """
            begin 2 1 2 2 1 = 0
            write 0 7 = 0
            lose 1 = 1
            deliver 0 = 1
            deliver 0 = 2
            deliver 0 = -2
        """)

    def test_the_others_keep_their_order(self):
        check(self, """
            begin 3 2 2 2 1 = 0
            write 0 7 = 0
            stop 2 = 0
            lose 1 = 2
            deliver 0 = 1
            deliver 0 = 0
            deliver 0 = 2
        """)


class Again(unittest.TestCase):
    def test_how_many_are_under_way_and_behind_all(self):
        check(self, """
            begin 3 1 3 2 1 = 0
            again 0 = -2
            write 0 7 = 0
            stop 1 = 0
            again 1 = 4
            again 4 = -2
            deliver 0 = 1
            deliver 0 = 0
            deliver 0 = 1
            deliver 0 = 0
            deliver 0 = 2
            deliver 0 = 2
            deliver 0 = -2
        """)

    def test_no_such_message(self):
        for message in (3, 60, MOST):
            check(self, f"begin 3 1 2 2 1 = 0\nwrite 0 7 = 0\nagain {message} = -2\nlose 0 = 2")

    def test_sixty(self):
        check(self, "\n".join(
            ["begin 1 2 1 1 1 = 0", "write 0 7 = 0"]
            + [f"again 0 = {count}" for count in range(2, 61)]
            + ["again 0 = -28", "again 59 = -28", "again 60 = -2", f"again {MOST} = -2"]
            + ["lose 0 = 59", "again 0 = 60", "again 0 = -28"]
        ))

    def test_the_same_message_comes_again(self):
        # Told a second time by its second copy, the machine hears it a second time.
        check(self, """
            begin 2 2 1 2 0 = 0
            write 0 7 = 0
            deliver 0 = 1
            again 1 = 3
            deliver 2 = 3
            lose 0 = 3
            lose 0 = 2
            again 0 = 3
            deliver 0 = 1
            deliver 1 = 1
            deliver 1 = 2
            deliver 1 = 0
            deliver 0 = 1
            deliver 0 = 4 0 7
        """)
