"""Point 1: begin."""

import unittest

from helper import MOST, check


class Begin(unittest.TestCase):
    def test_all_that_is_as_told(self):
        for machines in range(1, 6):
            for customers in range(1, 5):
                for asked in range(1, machines + 1):
                    for told in range(1, machines + 1):
                        for on in (0, 1):
                            check(self, f"begin {machines} {customers} {asked} {told} {on} = 0")

    def test_what_is_not_as_told(self):
        for machines in (0, 6, 7, MOST):
            check(self, f"begin {machines} 1 1 1 1 = -22")
        for customers in (0, 5, 6, MOST):
            check(self, f"begin 3 {customers} 2 2 1 = -22")
        for wrong in (0, 4, 5, MOST):
            check(self, f"begin 3 2 {wrong} 2 1 = -22")
            check(self, f"begin 3 2 2 {wrong} 1 = -22")
        for wrong in (0, 2, MOST):
            check(self, f"begin 1 1 {wrong} 1 0 = -22")
            check(self, f"begin 1 1 1 {wrong} 0 = -22")
        for wrong in (0, 6, MOST):
            check(self, f"begin 5 4 {wrong} 5 0 = -22")
            check(self, f"begin 5 4 5 {wrong} 0 = -22")
        for on in (2, 3, MOST):
            check(self, f"begin 3 2 2 2 {on} = -22")
        check(self, f"begin {MOST} {MOST} {MOST} {MOST} {MOST} = -22\nbegin 0 0 0 0 0 = -22")

    def test_so_many_machines(self):
        for machines in range(1, 6):
            check(self, f"""
                begin {machines} 1 1 1 1 = 0
                stop {machines - 1} = 0
                stop {machines} = -2
                write 0 1 = 0
                lose 0 = {machines - 1}
            """)

    def test_so_many_customers(self):
        for customers in range(1, 5):
            check(self, f"begin 1 {customers} 1 1 1 = 0\nread {customers - 1} = 0\nread {customers} = -2")

    def test_all_machines_are_up_and_all_customers_idle(self):
        check(self, """
            begin 5 4 3 3 1 = 0
            wake 0 = -16
            wake 1 = -16
            wake 2 = -16
            wake 3 = -16
            wake 4 = -16
            resend 0 = -16
            alone 3 = -16
            read 0 = 0
            read 1 = 1
            read 2 = 2
            read 3 = 3
        """)

    def test_0_is_kept_at_the_beginning(self):
        check(self, "begin 3 1 3 3 0 = 0\nread 0 = 0\n3 * deliver 0 = 1\n2 * deliver 0 = 2\ndeliver 0 = 4 0 0")

    def test_begun_again_all_is_as_at_the_beginning(self):
        check(self, """
            begin 3 2 1 1 1 = 0
            write 0 7 = 0
            alone 0 = 10 1
            write 0 8 = 1
            read 1 = 2
            stop 0 = 0
            stop 2 = 0
            quit 1 = 0
            begin 3 2 1 1 1 = 0
            deliver 0 = -2
            wake 0 = -16
            wake 2 = -16
            resend 0 = -16
            read 1 = 0
            alone 1 = 10 1
            lose 0 = 1
            lose 0 = 0
            lose 0 = -2
            write 0 7 = 1
        """)

    def test_begun_again_with_others(self):
        check(self, """
            begin 5 4 5 5 1 = 0
            stop 4 = 0
            begin 1 1 1 1 0 = 0
            stop 1 = -2
            read 1 = -2
            read 0 = 0
            deliver 0 = 1
            deliver 0 = 4 0 0
            begin 2 3 2 1 1 = 0
            read 2 = 0
            2 * deliver 0 = 1
            deliver 0 = 2
            deliver 0 = 3
        """)

    def test_begun_again_what_machines_kept_is_gone(self):
        check(self, """
            begin 1 1 1 1 0 = 0
            write 0 40 = 0
            alone 0 = 4 1
            begin 1 1 1 1 0 = 0
            read 0 = 0
            deliver 0 = 1
            deliver 0 = 4 0 0
        """)

    def test_a_refused_begin_leaves_what_was_begun(self):
        check(self, """
            begin 3 2 2 2 1 = 0
            write 0 7 = 0
            stop 1 = 0
            begin 3 2 2 2 2 = -22
            begin 6 2 2 2 1 = -22
            stop 1 = -16
            write 0 8 = -16
            write 1 7 = -17
            read 1 = 1
            lose 0 = 5
        """)

    def test_asked_and_told_are_how_many_must_have_answered(self):
        for machines in range(1, 6):
            for asked in range(1, machines + 1):
                for told in range(1, machines + 1):
                    check(self, "\n".join(
                        [f"begin {machines} 1 {asked} {told} 1 = 0", "write 0 9 = 0"]
                        + [f"{machines} * deliver 0 = 1"]
                        + ["deliver 0 = 2"] * (asked - 1) + ["deliver 0 = 3"]
                        + ["deliver 0 = 0"] * (machines - asked)
                        + [f"{machines} * deliver 0 = 1"]
                        + ["deliver 0 = 2"] * (told - 1) + ["deliver 0 = 4 0 9"]
                        + ["deliver 0 = 0"] * (machines - told)
                        + ["deliver 0 = -2"]
                    ))
