"""Point 5: now, safe and state."""

import unittest

from helper import Talk, check

# Customer 0's writing of 7 was told to machine 0 alone, that of 5 behind it to machine 1 alone;
# 5 is the newer one. Machine 2 keeps what was at the beginning.
KEPT_APART = """
    begin 3 2 {} 1 0
    write 0 7
    3 * deliver 0
    {}
    lose 2
    lose 1
    deliver 0 = 1
    deliver 0 = 4 0 7
    write 1 5
    3 * deliver 0
    {}
    lose 2
    lose 0
    deliver 0 = 1
    deliver 0 = 4 1 5
    machine 0 = 1 1 0 7
    machine 1 = 1 2 1 5
    machine 2 = 1 0 0 0
"""
ASKED_OF_ALL = KEPT_APART.format(3, *["2 * deliver 0 = 2\ndeliver 0 = 3"] * 2)
ASKED_OF_TWO = KEPT_APART.format(2, *["deliver 0 = 2\ndeliver 0 = 3\ndeliver 0 = 0"] * 2)
ASKED_OF_ONE = KEPT_APART.format(1, *["deliver 0 = 3\n2 * deliver 0 = 0"] * 2)


class Now(unittest.TestCase):
    def test_at_the_beginning(self):
        for machines in range(1, 6):
            for asked in range(1, machines + 1):
                check(self, f"begin {machines} 1 {asked} 1 0\nnow = 1 0\nread 0\nnow = 1 0")
        check(self, "now = -11\nbegin 1 1 2 1 0 = -22\nnow = -11")

    def test_what_was_told_to_some(self):
        check(self, """
            begin 3 1 2 2 1
            write 0 7
            3 * deliver 0
            now = 1 0
            deliver 0
            deliver 0 = 3
            deliver 0
            now = 1 0
            deliver 0
            machine 0 = 1 1 0 7
            now = 2 0 7
            deliver 0
            machine 1 = 1 1 0 7
            now = 1 7
            deliver 0
            now = 1 7
        """)

    def test_asked_of_all(self):
        check(self, ASKED_OF_ALL + "now = 1 5\nstop 2\nnow = 0\nwake 2\nnow = 1 5\nstop 1\nnow = 0")

    def test_asked_of_some(self):
        check(self, ASKED_OF_TWO + """
            now = 2 5 7
            stop 2
            now = 1 5
            stop 1
            now = 0
            wake 2
            now = 1 7
            stop 0
            wake 1
            now = 1 5
        """)

    def test_asked_of_one_the_least_value_first(self):
        check(self, ASKED_OF_ONE + """
            now = 3 0 5 7
            stop 2
            now = 2 5 7
            stop 1
            now = 1 7
            stop 0
            now = 0
            wake 1
            now = 1 5
        """)

    def test_all_stopped(self):
        for machines in range(1, 6):
            some_up = "".join(f"stop {machine}\nnow = 1 0\n" for machine in range(machines - 1))
            check(self, f"begin {machines} 1 1 1 1\n{some_up}stop {machines - 1}\nnow = 0\nwake 0\nnow = 1 0")

    def test_a_value_that_two_machines_keep_is_told_once(self):
        check(self, """
            begin 4 1 1 2 1
            stop 2
            stop 3
            write 0 7
            alone 0 = 12 1
            machine 0 = 1 1 0 7
            machine 1 = 1 1 0 7
            now = 1 7
            wake 2
            now = 2 0 7
            wake 3
            now = 2 0 7
        """)

    def test_values_of_like_tags(self):
        # Customer 0 tells both by tag 1, 0, for those that are asked answer of nothing newer.
        like = """
            begin 3 1 {} 1 0
            write 0 7
            3 * deliver 0
            {}
            lose 2
            lose 1
            deliver 0
            deliver 0 = 4 0 7
            write 0 8
            stop 0
            3 * deliver 0
            {}
            lose 2
            lose 0
            deliver 0
            deliver 0 = 4 1 8
            wake 0
            machine 0 = 1 1 0 7
            machine 1 = 1 1 0 8
        """
        check(self, like.format(2, "deliver 0 = 2\ndeliver 0 = 3\ndeliver 0", "deliver 0 = 2\ndeliver 0 = 3")
              + "now = 2 7 8\nstop 2\nnow = 2 7 8\nstop 0\nnow = 0")
        check(self, like.format(1, "deliver 0 = 3\n2 * deliver 0", "deliver 0 = 3\ndeliver 0")
              + "now = 3 0 7 8\nstop 1\nnow = 2 0 7")

    def test_what_it_tells_can_be_read_just_now(self):
        for stopped, value in ((0, 5), (1, 7), (2, 5)):
            check(self, ASKED_OF_TWO + f"""
                now = 2 5 7
                stop {stopped}
                read 0 = 2
                alone 0 = 5 1
                op 2 = 0 0 {value} 24 25
            """)


class Safe(unittest.TestCase):
    def test_each_number_of_machines(self):
        for machines in range(1, 6):
            for asked in range(1, machines + 1):
                for told in range(1, machines + 1):
                    more = 1 if asked + told > machines else 0
                    check(self, f"begin {machines} 2 {asked} {told} 1\nsafe = {more}")
                    check(self, f"begin {machines} 2 {asked} {told} 0\nsafe = 0")

    def test_as_many_as_there_are_and_more(self):
        check(self, "begin 4 1 2 2 1\nsafe = 0\nbegin 4 1 2 3 1\nsafe = 1\nbegin 4 1 3 2 1\nsafe = 1")
        check(self, "begin 5 1 5 1 1\nsafe = 1\nbegin 5 1 4 1 1\nsafe = 0\nbegin 1 1 1 1 1\nsafe = 1")

    def test_machines_that_have_stopped_are_there_too(self):
        check(self, "begin 2 1 1 1 1\nstop 0\nsafe = 0\nbegin 3 1 2 2 1\nstop 0\nstop 1\nstop 2\nsafe = 1")

    def test_ahead_of_a_begin(self):
        check(self, "safe = -11\nbegin 3 1 2 2 2 = -22\nsafe = -11\nbegin 3 1 2 2 1\nbegin 3 1 2 2 2 = -22\nsafe = 1")


class State(unittest.TestCase):
    def test_as_begun(self):
        for machines in range(1, 6):
            for customers in range(1, 5):
                for on in (0, 1):
                    check(self, f"begin {machines} {customers} {machines} 1 {on}\n"
                                f"state = 0 {machines} {machines} 1 {on} {customers} 0 0")
                    check(self, f"begin {machines} {customers} 1 {machines} {on}\n"
                                f"state = 0 {machines} 1 {machines} {on} {customers} 0 0")
        check(self, "state = -11\nbegin 0 1 1 1 1 = -22\nstate = -11")

    def test_the_time_the_messages_and_the_operations(self):
        check(self, """
            begin 3 2 2 1 0
            write 1 7
            state = 1 3 2 1 0 2 3 1
            read 0
            state = 2 3 2 1 0 2 6 2
            deliver 5
            state = 3 3 2 1 0 2 6 2
            lose 5 = 5
            state = 4 3 2 1 0 2 5 2
            again 4 = 6
            state = 5 3 2 1 0 2 6 2
            stop 0
            state = 6 3 2 1 0 2 6 2
            deliver 0 = 0
            state = 7 3 2 1 0 2 5 2
            wake 0
            state = 8 3 2 1 0 2 5 2
            resend 0 = 8
            state = 9 3 2 1 0 2 8 2
            alone 0 = 8 1
            state = 10 3 2 1 0 2 6 2
            quit 0
            state = 11 3 2 1 0 2 6 2
            begin 1 1 1 1 1
            state = 0 1 1 1 1 1 0 0
        """)

    def test_what_is_refused_takes_no_time(self):
        check(self, """
            begin 1 1 1 1 1
            stop 1 = -2
            wake 0 = -16
            write 0 41 = -22
            begin 2 2 2 3 1 = -22
            resend 0 = -16
            state = 0 1 1 1 1 1 0 0
            write 0 40 = 0
            read 0 = -16
            deliver 1 = -2
            state = 1 1 1 1 1 1 1 1
        """)

    def test_many_under_way_and_all_operations(self):
        check(self, "begin 5 1 1 1 1\nread 0\n55 * again 0\nstate = 56 5 1 1 1 1 60 1\nagain 0 = -28\n"
                    "state = 56 5 1 1 1 1 60 1")
        check(self, "begin 1 1 1 1 0\n" + "read 0\nalone 0\n" * 20 + "read 0 = -28\nstate = 40 1 1 1 0 1 0 20")
        talk = Talk(1, 1, 1, 1, 0)
        for time in range(1, 400):
            talk.call("stop" if time % 2 else "wake", 0)
            self.assertEqual(talk.ask("state"), [time, 1, 1, 1, 0, 1, 0, 0])
        talk.as_one_line(self)
