"""Point 3: message, machine, customer and op; and that what only tells changes nothing."""

import unittest

from enoughasked.keepers import answers
from helper import ARGUMENTS, MOST, NAMES, TELLS, apart, check, line_after, picture, play, rows

# Customer 0's writing of 7 has ended, and nothing is under way: the time is 2 on one machine.
WRITTEN = "begin 1 2 1 1 1\nwrite 0 7\nalone 0 = 4 1\n"
# Three machines: customer 0 asks, then tells, 7; one machine has answered, then heard.
ASKING = "begin 3 2 2 2 1\nwrite 0 7\n2 * deliver 0 = 1\nlose 0 = 2\ndeliver 0 = 2\n"
TELLING = ASKING + "deliver 0 = 3\n2 * deliver 0 = 1\nlose 0 = 2\ndeliver 0 = 2\n"


class MessageCall(unittest.TestCase):
    def test_asked(self):
        check(self, "\n".join(
            ["begin 5 3 5 5 1", "write 2 7 = 0"]
            + [f"message {machine} = 0 2 {machine} 0 0 0 0" for machine in range(5)]
            + ["message 5 = -2", "read 1 = 1"]
            + [f"message {5 + machine} = 0 1 {machine} 1 0 0 0" for machine in range(5)]
            + ["message 10 = -2"]
        ))

    def test_each_kind_of_a_writing_then_of_a_reading(self):
        check(self, """
            begin 1 3 1 1 1
            write 1 7 = 0
            message 0 = 0 1 0 0 0 0 0
            deliver 0 = 1
            message 0 = 1 1 0 0 0 0 0
            deliver 0 = 3
            message 0 = 2 1 0 0 1 1 7
            deliver 0 = 1
            message 0 = 3 1 0 0 1 1 7
            deliver 0 = 4 0 7
            message 0 = -2
            write 2 40 = 1
            message 0 = 0 2 0 1 0 0 0
            deliver 0 = 1
            message 0 = 1 2 0 1 1 1 7
            deliver 0 = 3
            message 0 = 2 2 0 1 2 2 40
            deliver 0 = 1
            message 0 = 3 2 0 1 2 2 40
            deliver 0 = 4 1 40
            read 0 = 2
            message 0 = 0 0 0 2 0 0 0
            deliver 0 = 1
            message 0 = 1 0 0 2 2 2 40
            deliver 0 = 3
            message 0 = 2 0 0 2 2 2 40
            deliver 0 = 1
            message 0 = 3 0 0 2 2 2 40
            deliver 0 = 4 2 40
            message 0 = -2
        """)

    def test_its_number_is_its_place_in_the_row(self):
        check(self, """
            begin 3 1 3 1 0
            write 0 7
            lose 0 = 2
            message 0 = 0 0 1 0 0 0 0
            message 1 = 0 0 2 0 0 0 0
            again 0 = 3
            message 2 = 0 0 1 0 0 0 0
            deliver 1 = 1
            message 0 = 0 0 1 0 0 0 0
            message 1 = 0 0 1 0 0 0 0
            message 2 = 1 0 2 0 0 0 0
            message 3 = -2
        """)

    def test_sent_once_more(self):
        check(self, """
            begin 2 2 2 1 1
            write 0 7
            alone 0
            lose 0 = 0
            read 1
            deliver 0
            deliver 1 = 2
            lose 0 = 0
            resend 1 = 2
            message 0 = 0 1 0 1 0 0 0
            message 1 = 0 1 1 1 0 0 0
            deliver 1
            deliver 1 = 3
            resend 1 = 5
            message 1 = 2 1 0 1 1 0 7
            message 3 = 2 1 0 1 1 0 7
            message 4 = 2 1 1 1 1 0 7
        """)

    def test_heard_with_what_was_told_though_a_newer_one_is_kept(self):
        check(self, """
            begin 1 2 1 1 1
            write 0 5
            write 1 6
            4 * deliver 0
            deliver 1
            deliver 0
            message 0 = 3 1 0 1 1 1 6
            message 1 = 3 0 0 0 1 0 5
            machine 0 = 1 1 1 6
        """)

    def test_no_such_message(self):
        for message in (3, 59, 60, MOST):
            check(self, f"begin 3 1 2 2 1\nmessage 0 = -2\nread 0\nmessage {message} = -2\nmessage 2 = 0 0 2 0 0 0 0")
        check(self, "begin 1 1 1 1 1\nread 0\n59 * again 0\nmessage 59 = 0 0 0 0 0 0 0\nmessage 60 = -2")
        check(self, "message 0 = -11\nbegin 1 1 1 1 2 = -22\nmessage 0 = -11")


class MachineCall(unittest.TestCase):
    def test_at_the_beginning(self):
        for machines in range(1, 6):
            told = [f"machine {machine} = 1 0 0 0" for machine in range(machines)]
            refused = [f"machine {machine} = -2" for machine in (machines, 5, 6, MOST)]
            check(self, "\n".join([f"begin {machines} 4 1 1 1"] + told + refused))
        check(self, "machine 0 = -11\nmachine 5 = -11")

    def test_what_it_keeps(self):
        check(self, """
            begin 2 3 1 1 0
            write 2 7
            lose 1 = 1
            2 * deliver 0
            machine 0 = 1 0 0 0
            deliver 0 = 1
            machine 0 = 1 1 2 7
            machine 1 = 1 0 0 0
            deliver 0 = 1
            machine 1 = 1 1 2 7
            machine 2 = -2
        """)

    def test_one_that_has_stopped_keeps_what_it_had(self):
        check(self, WRITTEN + """
            machine 0 = 1 1 0 7
            stop 0 = 0
            machine 0 = 0 1 0 7
            write 1 8
            alone 1 = 1 0
            machine 0 = 0 1 0 7
            wake 0 = 0
            machine 0 = 1 1 0 7
            resend 1
            alone 1 = 4 1
            machine 0 = 1 2 1 8
        """)

    def test_it_keeps_the_newer_alone(self):
        both = "begin 1 3 1 1 0\nwrite 0 5\nwrite 1 6\n4 * deliver 0\n"
        check(self, both + "deliver 0 = 1\nmachine 0 = 1 1 0 5\ndeliver 0 = 1\nmachine 0 = 1 1 1 6")
        check(self, both + "deliver 1 = 1\nmachine 0 = 1 1 1 6\ndeliver 0 = 1\nmachine 0 = 1 1 1 6")

    def test_a_like_tag_is_no_newer_one(self):
        # Customer 0 tells 7 to machine 0 and 8 to machine 1, then 8 to machine 0, all by tag 1, 0.
        check(self, """
            begin 2 1 1 1 0
            stop 1
            write 0 7
            alone 0 = 6 1
            stop 0
            wake 1
            write 0 8
            deliver 0 = 0
            deliver 0 = 1
            deliver 0 = 3
            wake 0
            deliver 0 = 1
            machine 0 = 1 1 0 7
            machine 1 = 1 0 0 0
            deliver 0 = 1
            machine 1 = 1 1 0 8
        """)


class CustomerCall(unittest.TestCase):
    def test_idle_at_the_beginning(self):
        for customers in range(1, 5):
            told = [f"customer {customer} = 0 0 0 0 0 0" for customer in range(customers)]
            refused = [f"customer {customer} = -2" for customer in (customers, 4, 5, MOST)]
            check(self, "\n".join([f"begin 5 {customers} 1 1 1"] + told + refused))
        check(self, "customer 0 = -11\ncustomer 4 = -11")

    def test_idle_behind_an_operation(self):
        check(self, WRITTEN + """
            customer 0 = 0 0 0 0 0 0
            read 0 = 1
            read 1 = 2
            alone 0
            customer 0 = 0 1 0 0 0 0
            alone 1
            customer 1 = 0 2 0 0 0 0
            customer 0 = 0 1 0 0 0 0
        """)

    def test_asking(self):
        check(self, WRITTEN + """
            write 1 8 = 1
            customer 1 = 1 1 0 0 0 0
            deliver 0
            customer 1 = 1 1 0 0 0 0
        """)
        check(self, """
            begin 3 2 3 3 1
            write 0 7
            alone 0
            read 1 = 1
            customer 1 = 1 1 0 0 0 0
            3 * deliver 0
            deliver 0 = 2
            customer 1 = 1 1 1 1 0 7
            deliver 1 = 2
            customer 1 = 1 1 2 1 0 7
        """)

    def test_asking_when_what_is_answered_is_not_newer(self):
        # Machine 0 keeps 7; machine 1, which answers behind it, keeps what was at the beginning.
        check(self, """
            begin 3 2 3 1 0
            write 0 7
            3 * deliver 0
            2 * deliver 0 = 2
            deliver 0 = 3
            lose 2
            lose 1
            deliver 0
            deliver 0 = 4 0 7
            read 1 = 1
            3 * deliver 0
            deliver 0 = 2
            customer 1 = 1 1 1 1 0 7
            deliver 0 = 2
            customer 1 = 1 1 2 1 0 7
        """)

    def test_who_answers_twice_has_answered_once(self):
        check(self, ASKING + """
            customer 0 = 1 0 1 0 0 0
            resend 0 = 4
            deliver 1
            deliver 3 = 0
            customer 0 = 1 0 1 0 0 0
        """)

    def test_telling(self):
        check(self, TELLING + "customer 0 = 2 0 1 1 0 7\ncustomer 1 = 0 0 0 0 0 0")
        check(self, WRITTEN + """
            write 1 8 = 1
            2 * deliver 0
            customer 1 = 2 1 0 2 1 8
            deliver 0
            customer 1 = 2 1 0 2 1 8
            deliver 0 = 4 1 8
            customer 1 = 0 1 0 0 0 0
            read 0 = 2
            2 * deliver 0
            customer 0 = 2 2 0 2 1 8
            deliver 0
            deliver 0 = 4 2 8
            customer 0 = 0 2 0 0 0 0
        """)

    def test_one_who_has_left_is_told_as_they_were(self):
        check(self, ASKING + """
            quit 0
            customer 0 = 3 0 1 0 0 0
            deliver 0
            customer 0 = 3 0 1 0 0 0
        """)
        check(self, TELLING + """
            quit 0
            customer 0 = 3 0 1 1 0 7
            deliver 0
            customer 0 = 3 0 1 1 0 7
        """)
        check(self, WRITTEN + "read 1 = 1\ndeliver 0\nquit 1\ndeliver 0 = 0\ncustomer 1 = 3 1 0 0 0 0")
        check(self, WRITTEN + "quit 0\ncustomer 0 = 3 0 0 0 0 0\nread 1 = 1\nalone 1\nquit 1\ncustomer 1 = 3 1 0 0 0 0")
        check(self, "begin 1 1 1 1 1\nquit 0\ncustomer 0 = 3 0 0 0 0 0")

    def test_one_who_left_knows_what_they_knew(self):
        check(self, """
            begin 2 2 2 1 1
            write 0 7
            alone 0
            lose 0 = 0
            read 1 = 1
            2 * deliver 0
            deliver 0 = 2
            quit 1
            deliver 0 = 0
            customer 1 = 3 1 1 1 0 7
        """)


class OpCall(unittest.TestCase):
    def test_a_writing(self):
        check(self, """
            begin 1 2 1 1 1
            stop 0
            wake 0
            write 1 40 = 0
            op 0 = 1 1 40 3 0
            deliver 0
            deliver 0 = 3
            op 0 = 1 1 40 3 0
            deliver 0
            deliver 0 = 4 0 40
            op 0 = 1 1 40 3 7
            read 0
            alone 0
            op 0 = 1 1 40 3 7
        """)

    def test_a_reading(self):
        check(self, WRITTEN + """
            read 1 = 1
            op 1 = 0 1 0 3 0
            deliver 0
            deliver 0 = 3
            op 1 = 0 1 0 3 0
            deliver 0
            deliver 0 = 4 1 7
            op 1 = 0 1 7 3 7
            op 0 = 1 0 7 1 2
        """)

    def test_a_reading_of_what_was_at_the_beginning(self):
        check(self, "begin 1 1 1 1 0\nread 0\ndeliver 0\nop 0 = 0 0 0 1 0\ndeliver 0 = 4 0 0\nop 0 = 0 0 0 1 3")

    def test_the_end_by_alone_is_the_time_of_that_call(self):
        check(self, "begin 5 1 5 5 1\nread 0\nread 0 = -16\nalone 0 = 20 1\nop 0 = 0 0 0 1 2\nstate = 2 5 5 5 1 1 0 1")

    def test_what_one_who_left_began_never_ends(self):
        check(self, """
            begin 1 2 1 1 0
            write 0 7
            2 * deliver 0
            deliver 0
            quit 0
            deliver 0 = 0
            op 0 = 1 0 7 1 0
            read 1
            deliver 0
            quit 1
            deliver 0 = 0
            op 1 = 0 1 0 7 0
        """)

    def test_no_such_operation(self):
        for number in (1, 19, 20, MOST):
            check(self, f"begin 1 1 1 1 0\nop 0 = -2\nread 0\nop {number} = -2\nop 0 = 0 0 0 1 0")
        twenty = "begin 1 1 1 1 0\n" + "read 0\nalone 0\n" * 20
        check(self, twenty + "read 0 = -28\nop 19 = 0 0 0 39 40\nop 20 = -2")
        check(self, WRITTEN + "begin 1 1 1 1 1\nop 0 = -2")
        check(self, "op 0 = -11\nop 20 = -11")


class NothingChanges(unittest.TestCase):
    LINES = (
        "begin 5 4 3 3 1", WRITTEN, ASKING, TELLING, TELLING + "quit 0\nstop 1\nread 1",
        # What was written has been read, then not: moments can't be found.
        "begin 2 2 1 1 0\nstop 1\nwrite 0 7\nalone 0\nstop 0\nwake 1\nread 1\nalone 1\nkept = 0",
    )
    TELLING_CALLS = [
        [number] + given for number in TELLS for given in ([[0], [1], [MOST]] if ARGUMENTS[number] else [[]])
    ]

    def test_what_only_tells_changes_nothing(self):
        for text in self.LINES:
            line = line_after(text)
            before = picture(line)
            for call in self.TELLING_CALLS:
                line.answer(call[0], call[1:])
                self.assertEqual(picture(line), before, NAMES[call[0]])

    def test_the_calls_between_them_answer_the_same(self):
        between = [number for call in self.TELLING_CALLS for number in call]
        for text in self.LINES:
            calls = [numbers for row, numbers, due in rows(text)]
            woven = apart(answers([number for call in calls for number in call + between]))
            self.assertEqual(woven[::1 + len(self.TELLING_CALLS)], play(text))

    def test_the_time_stays(self):
        check(self, WRITTEN + "state = 2 1 1 1 1 2 0 1\n" + "\n".join(
            f"{call} = {due}\nstate = 2 1 1 1 1 2 0 1" for call, due in (
                ("message 0", "-2"), ("machine 0", "1 1 0 7"), ("machine 1", "-2"), ("customer 1", "0 0 0 0 0 0"),
                ("customer 2", "-2"), ("op 0", "1 0 7 1 2"), ("op 1", "-2"), ("kept", "1"), ("why", "0"),
                ("order", "1 0"), ("since", "0"), ("now", "1 7"), ("safe", "1"), ("deliver 0", "-2"),
                ("write 0 7", "-17"), ("resend 0", "-16"), ("begin 0 0 0 0 0", "-22"),
            )
        ))
