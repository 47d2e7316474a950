"""Where it usually breaks, and each row of what happens when a message comes."""

import unittest

from helper import check


class OperationsThatHaveEnded(unittest.TestCase):
    def test_asked_of_it_is_still_answered_and_the_answer_does_nothing(self):
        check(self, """
            begin 1 1 1 1 0 = 0
            read 0 = 0
            again 0 = 2
            deliver 0 = 1
            deliver 1 = 4 0 0
            deliver 0 = 1
            deliver 0 = 0
            deliver 0 = -2
        """)

    def test_told_of_it_is_still_kept_and_heard_and_hearing_does_nothing(self):
        check(self, """
            begin 2 2 1 1 0 = 0
            write 0 7 = 0
            deliver 0 = 1
            deliver 1 = 3
            lose 0 = 2
            deliver 0 = 1
            deliver 1 = 4 0 7
            deliver 0 = 1
            deliver 0 = 0
            read 1 = 1
            lose 0 = 1
            deliver 0 = 1
            deliver 0 = 4 1 7
        """)

    def test_an_answer_to_the_one_before_does_not_count(self):
        check(self, """
            begin 2 1 1 1 0 = 0
            read 0 = 0
            2 * deliver 0 = 1
            deliver 0 = 4 0 0
            read 0 = 1
            deliver 0 = 0
            deliver 0 = 1
            deliver 1 = 4 1 0
        """)

    def test_hearing_the_one_before_does_not_count(self):
        check(self, """
            begin 2 1 1 1 1 = 0
            write 0 7 = 0
            deliver 0 = 1
            deliver 1 = 3
            lose 0 = 2
            2 * deliver 0 = 1
            deliver 0 = 4 0 7
            write 0 8 = 1
            deliver 1 = 1
            deliver 2 = 3
            deliver 0 = 0
            lose 0 = 2
            deliver 0 = 1
            deliver 1 = 4 1 8
        """)

    def test_an_answer_does_not_count_while_telling(self):
        check(self, """
            begin 2 1 1 2 1 = 0
            write 0 7 = 0
            2 * deliver 0 = 1
            deliver 0 = 3
            deliver 0 = 0
            2 * deliver 0 = 1
            deliver 0 = 2
            deliver 0 = 4 0 7
        """)


class MessagesThatComeTwice(unittest.TestCase):
    def test_asked_twice_answers_twice_and_counts_once(self):
        check(self, """
            begin 3 1 2 2 1 = 0
            write 0 7 = 0
            again 0 = 4
            deliver 0 = 1
            deliver 2 = 1
            deliver 2 = 2
            deliver 2 = 0
            deliver 0 = 1
            deliver 1 = 3
        """)

    def test_one_answer_twice_counts_once(self):
        check(self, """
            begin 3 1 2 2 1 = 0
            write 0 7 = 0
            deliver 0 = 1
            again 2 = 4
            deliver 2 = 2
            deliver 2 = 0
            deliver 0 = 1
            deliver 1 = 3
        """)

    def test_a_second_answer_tells_the_customer_nothing(self):
        # Machine 0 keeps 7 only by its second answer, so that what they know stays 0.
        check(self, """
            begin 2 2 2 1 0 = 0
            write 0 7 = 0
            deliver 0 = 1
            deliver 1 = 2
            deliver 0 = 1
            deliver 0 = 3
            lose 1 = 1
            read 1 = 1
            again 1 = 4
            deliver 1 = 1
            deliver 3 = 2
            deliver 0 = 1
            deliver 2 = 4 0 7
            deliver 1 = 1
            deliver 1 = 0
            deliver 0 = 1
            deliver 0 = 4 1 0
        """)

    def test_told_twice_is_heard_twice_and_counts_once(self):
        check(self, """
            begin 3 2 1 2 1 = 0
            write 0 7 = 0
            deliver 0 = 1
            deliver 2 = 3
            2 * lose 0
            again 0 = 4
            again 0 = 5
            deliver 0 = 1
            deliver 2 = 1
            deliver 3 = 2
            deliver 3 = 0
            deliver 0 = 1
            deliver 2 = 4 0 7
            deliver 1 = 1
            deliver 1 = 0
        """)

    def test_hearing_twice_counts_once(self):
        check(self, """
            begin 2 1 1 2 1 = 0
            write 0 7 = 0
            deliver 0 = 1
            deliver 1 = 3
            lose 0 = 2
            deliver 0 = 1
            again 1 = 3
            deliver 1 = 2
            deliver 1 = 0
            deliver 0 = 1
            deliver 0 = 4 0 7
        """)


class CustomersWhoHaveLeft(unittest.TestCase):
    def test_machines_answer_one_who_left_while_asking_and_it_never_ends(self):
        check(self, """
            begin 2 1 2 1 0 = 0
            read 0 = 0
            deliver 0 = 1
            deliver 1 = 2
            quit 0 = 0
            deliver 0 = 1
            deliver 0 = 0
            deliver 0 = -2
        """)

    def test_what_one_who_left_has_told_is_kept_heard_and_read(self):
        check(self, """
            begin 1 2 1 1 1 = 0
            write 0 7 = 0
            deliver 0 = 1
            deliver 0 = 3
            quit 0 = 0
            deliver 0 = 1
            deliver 0 = 0
            read 1 = 1
            alone 1 = 4 1
            read 1 = 2
            deliver 0 = 1
            deliver 0 = 3
            deliver 0 = 1
            deliver 0 = 4 2 7
            write 1 7 = -17
        """)

    def test_one_who_left_while_asking_writes_nothing(self):
        check(self, """
            begin 1 2 1 1 0 = 0
            write 0 7 = 0
            deliver 0 = 1
            quit 0 = 0
            deliver 0 = 0
            deliver 0 = -2
            read 1 = 1
            deliver 0 = 1
            deliver 0 = 4 1 0
        """)

    def test_the_others_are_as_they_were(self):
        check(self, "begin 3 4 2 2 1 = 0\nread 0\nread 1\nquit 0 = 0\nalone 1\nwrite 2 1 = 2\nread 3 = 3\nread 1 = 4")


class TwoWritersOfOneNumber(unittest.TestCase):
    # Both know 0 when they tell, so both tell the number 1.
    BOTH = """
        begin 1 3 1 1 0 = 0
        write 0 5 = 0
        write 1 6 = 1
        2 * deliver 0 = 1
        2 * deliver 0 = 3
    """
    READ = "read 2 = 2\ndeliver 0 = 1\ndeliver 0 = 4 2 6\n"

    def test_the_greater_customer_is_the_newer_told_last(self):
        check(self, self.BOTH + "2 * deliver 0 = 1\ndeliver 0 = 4 0 5\ndeliver 0 = 4 1 6\n" + self.READ)

    def test_the_greater_customer_is_the_newer_told_first(self):
        check(self, self.BOTH + "deliver 1 = 1\ndeliver 0 = 1\ndeliver 0 = 4 1 6\ndeliver 0 = 4 0 5\n" + self.READ)


class LikeTags(unittest.TestCase):
    # Asked and told together are no more than all: customer 0 writes 7, asking and telling
    # machine 0 alone, then 8, asking machine 1 alone, and tells both the tag they told before.
    TOLD_LIKE = """
        begin 2 2 1 1 0 = 0
        write 0 7 = 0
        lose 1 = 1
        deliver 0 = 1
        deliver 0 = 3
        lose 1 = 1
        deliver 0 = 1
        deliver 0 = 4 0 7
        write 0 8 = 1
        lose 0 = 1
        deliver 0 = 1
        deliver 0 = 3
        2 * deliver 0 = 1
        deliver 1 = 4 1 8
        lose 0 = 0
    """

    def test_a_machine_keeps_the_value_it_has(self):
        for machine, value in ((0, 7), (1, 8)):
            check(self, self.TOLD_LIKE + f"""
                read 1 = 2
                deliver {machine} = 1
                deliver 1 = 4 2 {value}
            """)

    def test_a_customer_knows_the_value_answered_first(self):
        # The same with three machines, two asked: 0 keeps 7, and 1 keeps 8 by a like tag.
        kept = """
            begin 3 2 2 1 0 = 0
            write 0 7 = 0
            2 * deliver 0 = 1
            deliver 1 = 2
            deliver 1 = 3
            lose 3 = 3
            lose 2 = 2
            deliver 1 = 1
            deliver 1 = 4 0 7
            lose 0 = 0
            write 0 8 = 1
            lose 0 = 2
            2 * deliver 0 = 1
            deliver 0 = 2
            deliver 0 = 3
            lose 2 = 2
            lose 0 = 1
            deliver 0 = 1
            deliver 0 = 4 1 8
            read 1 = 2
            2 * deliver 0 = 1
        """
        check(self, kept + "deliver 1 = 2\ndeliver 1 = 4 2 7")
        check(self, kept + "deliver 2 = 2\ndeliver 1 = 4 2 8")


class ReadersWhoTellItOn(unittest.TestCase):
    def test_what_nobody_knows_was_told_is_told_on(self):
        # The writer told machine 0 alone and left; customer 1 tells 1 and 2 what 0 answered,
        # so that customer 2, who asks those, reads it too.
        check(self, """
            begin 3 3 2 2 1 = 0
            write 0 7 = 0
            2 * deliver 0 = 1
            deliver 1 = 2
            deliver 1 = 3
            lose 0 = 3
            deliver 0 = 1
            quit 0 = 0
            lose 0 = 2
            lose 0 = 1
            deliver 0 = 0
            read 1 = 1
            2 * deliver 0 = 1
            deliver 1 = 2
            deliver 1 = 3
            lose 0 = 3
            lose 0 = 2
            2 * deliver 0 = 1
            deliver 0 = 2
            deliver 0 = 4 1 7
            stop 0 = 0
            read 2 = 2
            deliver 0 = 0
            2 * deliver 0 = 1
            deliver 0 = 2
            deliver 0 = 3
            deliver 0 = 0
            2 * deliver 0 = 1
            deliver 0 = 2
            deliver 0 = 4 2 7
            deliver 0 = -2
        """)

    def test_a_reader_who_does_not_tell_it_on_leaves_it_untold(self):
        # Machine 0 alone was told: one reading asks it, the next, which asks machine 1, is of 0.
        check(self, """
            begin 3 2 1 1 0 = 0
            write 0 7 = 0
            deliver 0 = 1
            deliver 2 = 3
            2 * lose 0
            deliver 0 = 1
            2 * lose 0
            quit 0 = 0
            deliver 0 = 0
            read 1 = 1
            deliver 0 = 1
            deliver 2 = 4 1 7
            2 * lose 0
            read 1 = 2
            deliver 1 = 1
            deliver 2 = 4 2 0
        """)

    def test_a_reader_tells_the_tag_they_know_and_no_newer_one(self):
        # Were it newer, the machine would keep 6 instead of 5, which was written later.
        check(self, """
            begin 1 3 1 1 1 = 0
            write 1 6 = 0
            2 * deliver 0
            again 0 = 2
            deliver 0 = 1
            deliver 1 = 4 0 6
            write 0 5 = 1
            read 2 = 2
            deliver 2 = 1
            deliver 2 = 3
            deliver 1 = 1
            deliver 2 = 3
            deliver 2 = 1
            deliver 2 = 4 1 5
            deliver 1 = 1
            deliver 1 = 4 2 6
            read 1 = 3
            deliver 1 = 1
            deliver 1 = 3
            deliver 1 = 1
            deliver 1 = 4 3 5
            deliver 0 = 1
            deliver 0 = 0
        """)

    def test_a_reader_of_the_beginning_tells_it_on_too(self):
        check(self, """
            begin 2 1 1 2 1 = 0
            read 0 = 0
            2 * deliver 0 = 1
            deliver 0 = 3
            deliver 0 = 0
            2 * deliver 0 = 1
            deliver 0 = 2
            deliver 0 = 4 0 0
        """)


class HowManyAreAskedAndTold(unittest.TestCase):
    def test_all_stopped(self):
        check(self, """
            begin 2 1 1 1 1 = 0
            stop 0 = 0
            stop 1 = 0
            write 0 7 = 0
            2 * deliver 0 = 0
            deliver 0 = -2
            resend 0 = 2
            alone 0 = 2 0
            wake 1 = 0
            resend 0 = 2
            alone 0 = 6 1
        """)

    def test_all_asked_and_one_told(self):
        check(self, """
            begin 5 2 5 1 1 = 0
            write 0 40 = 0
            5 * deliver 0 = 1
            4 * deliver 0 = 2
            deliver 0 = 3
            4 * lose 0
            deliver 0 = 1
            deliver 0 = 4 0 40
            read 1 = 1
            5 * deliver 0 = 1
            4 * deliver 0 = 2
            deliver 0 = 3
            deliver 0 = 1
            deliver 4 = 4 1 40
        """)

    def test_all_asked_and_one_stopped_never_ends(self):
        check(self, "begin 5 1 5 1 1 = 0\nstop 3 = 0\nread 0 = 0\nalone 0 = 9 0\nresend 0 = 5\nalone 0 = 9 0")

    def test_one_asked_and_all_told(self):
        check(self, """
            begin 5 2 1 5 0 = 0
            write 0 1 = 0
            deliver 0 = 1
            deliver 4 = 3
            4 * lose 0
            5 * deliver 0 = 1
            4 * deliver 0 = 2
            deliver 0 = 4 0 1
            read 1 = 1
            deliver 4 = 1
            deliver 4 = 4 1 1
        """)

    def test_one_asked_and_one_told_may_read_what_is_old(self):
        check(self, """
            begin 2 2 1 1 1 = 0
            write 0 7 = 0
            lose 1 = 1
            2 * deliver 0
            lose 1 = 1
            deliver 0 = 1
            deliver 0 = 4 0 7
            read 1 = 1
            deliver 1 = 1
            deliver 1 = 3
            lose 0 = 2
            deliver 1 = 1
            deliver 1 = 4 1 0
        """)
