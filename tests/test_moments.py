"""Point 4: kept, why, order and since."""

import itertools
import random
import unittest

from enoughasked.moments import can_be_found, in_order, told_by, why_not
from enoughasked.store import Operation
from helper import Talk, check

FOUND = "kept = 1\nwhy = 0\nsince = 0\n"


def lost(why, since):
    return f"kept = 0\nwhy = {why}\norder = -33\nsince = {since}\n"


# What was written was told to machine 0 alone, and the reading asks machine 1 alone.
OLD_READ = """
    begin 2 2 1 1 1
    stop 1
    write 0 7 = 0
    alone 0 = 6 1
    stop 0
    wake 1
    read 1 = 1
    alone 1 = 6 1
"""

# Three machines keep 9, 5 and 7, which were written in that order, each asked and told alone.
APART = """
    begin 3 4 1 1 0
    stop 1
    stop 2
    write 0 9 = 0
    alone 0 = 8 1
    stop 0
    wake 1
    write 1 5 = 1
    alone 1 = 8 1
    stop 1
    wake 2
    write 2 7 = 2
    alone 2 = 8 1
"""

# Two machines keep 5 and 9, of writings that never end: they're to be told to both.
NEVER_ENDED = """
    begin 2 4 1 2 0
    stop 1
    write 0 5 = 0
    alone 0 = 6 0
    stop 0
    wake 1
    write 1 9 = 1
    alone 1 = 6 0
"""
READ_9 = "read 2\nalone 2 = 3 1\n"
READ_5 = "stop 1\nwake 0\nread 3\nalone 3 = 3 1\nstop 0\nwake 1\n"


class WhereMomentsCanBeFound(unittest.TestCase):
    def test_nothing_was_told(self):
        check(self, "begin 1 1 1 1 1\n" + FOUND + "order = 0")
        check(self, "begin 5 4 1 1 0\nread 0\nread 1\ndeliver 0\nstop 4\nquit 0\n" + FOUND + "order = 0")

    def test_ahead_of_a_begin(self):
        check(self, "kept = -11\nwhy = -11\norder = -11\nsince = -11")
        check(self, "begin 0 1 1 1 1 = -22\nkept = -11\nwhy = -11\norder = -11\nsince = -11")

    def test_a_writing_then_a_reading_of_it(self):
        check(self, "begin 1 2 1 1 1\nwrite 0 7\nalone 0\n" + FOUND + "order = 1 0\n"
              + "read 1\n" + FOUND + "order = 1 0\nalone 1\n" + FOUND + "order = 2 0 1")

    def test_readings_of_what_was_at_the_beginning_come_first(self):
        # The reading of 0 ends behind the writing's end, but it began ahead of that.
        check(self, """
            begin 1 2 1 1 0
            read 1 = 0
            deliver 0 = 1
            write 0 7 = 1
            deliver 1 = 1
            deliver 1 = 3
            deliver 1 = 1
            deliver 1 = 4 1 7
            order = 1 1
            deliver 0 = 4 0 0
            order = 2 0 1
        """ + FOUND)
        check(self, "begin 1 2 1 1 0\nread 0\nalone 0\nread 1\nalone 1\n" + FOUND + "order = 2 0 1")

    def test_an_open_writing_that_no_reading_is_of_does_not_count(self):
        check(self, "begin 1 2 1 1 0\nwrite 0 7 = 0\n" + FOUND + "order = 0\nread 1\nalone 1\n" + FOUND + "order = 1 1")
        check(self, NEVER_ENDED + FOUND + "order = 0")

    def test_an_open_writing_that_some_reading_is_of_counts(self):
        check(self, NEVER_ENDED + READ_9 + FOUND + "order = 2 1 2\n" + READ_5 + FOUND + "order = 4 1 2 0 3")

    def test_a_reading_that_has_not_ended_does_not_count(self):
        check(self, NEVER_ENDED + "read 2\n2 * deliver 0\nquit 2\ndeliver 0 = 0\n" + FOUND + "order = 0")
        check(self, NEVER_ENDED + "read 2\ndeliver 1 = 1\n" + FOUND + "order = 0\ndeliver 1 = 4 2 9\norder = 2 1 2")

    def test_values_that_may_come_in_either_order_come_the_least_first(self):
        both = "begin 1 2 1 1 1\nwrite 0 {}\nwrite 1 {}\nalone 0\nalone 1\n" + FOUND
        check(self, both.format(9, 5) + "order = 2 1 0")
        check(self, both.format(5, 9) + "order = 2 0 1")

    def test_values_of_which_one_ended_earlier_come_in_that_order(self):
        one_by_one = "begin 1 2 1 1 1\nwrite 0 {}\nalone 0\nwrite 1 {}\nalone 1\n" + FOUND
        check(self, one_by_one.format(9, 5) + "order = 2 0 1")
        check(self, one_by_one.format(5, 9) + "order = 2 0 1")

    def test_a_later_reading_puts_a_value_behind(self):
        # 5 and 9 were written at one time, but 5 is read when 9 has ended.
        check(self, """
            begin 1 3 1 1 1
            write 1 5 = 0
            write 0 9 = 1
            2 * deliver 1
            deliver 1
            deliver 1 = 4 1 9
            order = 1 1
            alone 1 = 4 1
            order = 2 0 1
            read 2 = 2
            alone 2 = 4 1
            order = 3 1 0 2
        """ + FOUND)

    def test_the_writing_then_its_readings_as_they_begin(self):
        # The reading 0 began ahead of the writing 1; the reading 3 ends ahead of the reading 2.
        check(self, """
            begin 1 4 1 1 0
            read 0 = 0
            write 1 7 = 1
            alone 1 = 4 1
            read 2 = 2
            read 3 = 3
            alone 3 = 2 1
            alone 2 = 2 1
            alone 0 = 2 1
            order = 4 1 0 2 3
        """ + FOUND)

    def test_late_in_a_long_line(self):
        check(self, "begin 1 2 1 1 1\nwrite 1 8 = 0\n" + "stop 0\nwake 0\n" * 190 + """
            write 0 7 = 1
            order = 0
            alone 0 = 4 1
            op 1 = 1 0 7 382 383
            order = 1 1
            alone 1 = 4 1
            order = 2 1 0
        """ + FOUND)

    def test_begun_again(self):
        check(self, OLD_READ + "kept = 0\nbegin 2 2 1 1 1\n" + FOUND + "order = 0")
        check(self, OLD_READ + "kept = 0\nbegin 2 2 1 1 9 = -22\nkept = 0")


class WhereTheyCannotBeFound(unittest.TestCase):
    def test_a_reading_of_0_behind_a_writing_that_has_ended(self):
        # The 0 has but its reading, the 7 but its writing.
        check(self, OLD_READ.replace("alone 1 = 6 1", FOUND + "order = 1 0\nalone 1 = 6 1") + lost("3 0 1", 7))

    def test_why_and_since_stay(self):
        check(self, OLD_READ + lost("3 0 1", 7) + "write 1 8\nalone 1\n" + lost("3 0 1", 7))

    def test_the_last_reading_of_0_is_told(self):
        check(self, OLD_READ + "read 0 = 2\nalone 0 = 6 1\n" + lost("3 0 2", 7))

    def test_an_open_writing_is_told_too(self):
        # One reading asks machines 0 and 1, of which 0 was told; the next asks 1 and 2.
        check(self, """
            begin 3 3 2 2 0
            stop 2
            write 0 7 = 0
            3 * deliver 0
            deliver 0
            deliver 0 = 3
            lose 2
            lose 1
            deliver 0
            quit 0
            read 1 = 1
            lose 3
            2 * deliver 1
            deliver 1 = 2
            deliver 1 = 4 1 7
            wake 2
            stop 0
            read 2 = 2
            kept = 1
            order = 2 0 1
            alone 2 = 5 1
        """ + lost("3 0 1 2", 21))

    def test_six_operations(self):
        # 5 is read first by the operation 3, last by 5; 9 first by 2, last by 4.
        check(self, NEVER_ENDED + READ_9 + READ_5 + FOUND + READ_9 + lost("3 0 1 2 3 4", 17)
              + READ_5 + lost("3 0 1 2 3 4 5", 17) + READ_5 + lost("3 0 1 2 3 4 6", 17))

    def test_the_first_two_of_several_that_clash(self):
        read_9 = "stop 2\nwake 0\nread 3\nalone 3 = 4 1\nstop 0\nwake 2\n"
        read_5 = "stop 2\nwake 1\nread 3\nalone 3 = 4 1\nstop 1\nwake 2\n"
        check(self, APART + FOUND + "order = 3 0 1 2")
        # 5 clashes with 7, then with 9 too.
        check(self, APART + read_5 + lost("3 1 2 3", 16) + read_9 + lost("3 1 2 3", 16))
        # 5 and 7 each clash with 9, then 5 and 7 with each other.
        check(self, APART + read_9 + lost("3 0 1 3", 16) + read_5 + lost("3 1 2 4", 16))
        # 7 clashes with 9 alone: 5's writing never began.
        without_5 = APART.replace("write 1 5 = 1", "wake 1 = -16").replace("alone 1 = 8 1", "wake 1 = -16")
        check(self, without_5.replace("write 2 7 = 2", "write 2 7 = 1") + read_9 + lost("3 0 1 2", 14))

    def test_an_operation_that_ended_later_brings_it_about(self):
        # The reading of 0 begins behind the end of the writing, and ends long behind that.
        check(self, """
            begin 2 2 1 1 0
            stop 1
            write 0 7 = 0
            alone 0 = 6 1
            wake 1
            read 1 = 1
            deliver 1 = 1
            stop 0
            stop 1
            since = 0
            deliver 1 = 4 1 0
        """ + lost("3 0 1", 9) + "wake 0\nwake 1\n" + lost("3 0 1", 9))


class WhatNoCallsBringAbout(unittest.TestCase):
    """1 and 2 of 'Moments can be found': no line of calls comes there, so operations are made by hand."""

    def made(self, *told):
        ops = []
        for writing, value, began, ended in told:
            ops.append(Operation(writing, 0, value, began))
            ops[-1].ended = ended
        return told_by(ops, 1000000)

    def test_a_reading_of_what_nobody_writes(self):
        reading = (False, 7, 2, 3)
        self.assertEqual(why_not(self.made((True, 8, 1, 0), reading)), [1, 1])
        self.assertEqual(why_not(self.made(reading, (False, 9, 4, 5))), [1, 0])
        self.assertFalse(can_be_found(self.made(reading)))
        self.assertEqual(why_not(self.made((True, 7, 1, 0), reading)), [0])
        self.assertEqual(why_not(self.made((False, 0, 2, 3))), [0])

    def test_a_reading_that_ended_ahead_of_its_writing(self):
        reading = (False, 7, 1, 2)
        self.assertEqual(why_not(self.made(reading, (True, 7, 3, 4))), [2, 0, 1])
        self.assertEqual(why_not(self.made(reading, (True, 7, 3, 0))), [2, 0, 1])
        self.assertEqual(why_not(self.made((True, 7, 3, 4), reading)), [2, 0, 1])
        self.assertEqual(why_not(self.made((False, 0, 1, 2), (True, 7, 5, 0), (False, 7, 3, 4))), [2, 1, 2])
        self.assertFalse(can_be_found(self.made(reading, (True, 7, 3, 4))))
        self.assertEqual(why_not(self.made(reading, (True, 7, 2, 4))), [0])

    def test_the_first_of_them_that_is_so(self):
        clash = [(True, 7, 1, 2), (False, 0, 3, 4)]
        ahead = [(False, 8, 1, 2), (True, 8, 3, 4)]
        nobodys = [(False, 9, 5, 6)]
        self.assertEqual(why_not(self.made(*clash)), [3, 0, 1])
        self.assertEqual(why_not(self.made(*clash, *ahead)), [2, 2, 3])
        self.assertEqual(why_not(self.made(*clash, *ahead, *nobodys)), [1, 4])

    def test_the_first_of_those_that_end_or_begin_at_one_time(self):
        clash = [(True, 7, 1, 9), (False, 7, 1, 2), (False, 7, 1, 2), (False, 0, 4, 5), (False, 0, 4, 6)]
        self.assertEqual(why_not(self.made(*clash)), [3, 0, 1, 3])
        self.assertEqual(why_not(self.made(*clash[1:], clash[0])), [3, 0, 2, 4])

    def test_what_is_known_at_a_time(self):
        ops = [Operation(True, 0, 7, 1), Operation(True, 1, 8, 2), Operation(False, 2, 8, 3), Operation(False, 3, 0, 4)]
        ops[1].ended = 5
        ops[2].ended = 6
        known = [[(op.number, op.ended) for op in told_by(ops, time)] for time in range(7)]
        self.assertEqual(known[:3], [[], [(0, 1000001)], [(0, 1000001), (1, 1000001)]])
        self.assertEqual(known[3:5], [known[2], known[2]])
        self.assertEqual(known[5:], [[(0, 1000001), (1, 5)], [(0, 1000001), (1, 5), (2, 6)]])

    def test_ends_and_beginnings_of_one_time_do_not_clash(self):
        # Earlier is meant as it stands: what ends as the other begins is not ahead of it.
        self.assertEqual(why_not(self.made((True, 7, 1, 2), (False, 0, 2, 3))), [0])
        self.assertEqual(why_not(self.made((True, 7, 1, 2), (False, 0, 3, 4))), [3, 0, 1])
        self.assertEqual(in_order(self.made((True, 9, 1, 2), (True, 7, 2, 3))), [1, 0])
        self.assertEqual(in_order(self.made((True, 9, 1, 2), (True, 7, 3, 4))), [0, 1])


class Reference:
    """What point 4 says, told by op alone: moments are looked for one by one."""

    def __init__(self, ops):
        known = [(number, op[0], op[2], op[3], op[4] or 1000001) for number, op in enumerate(ops) if op[0] or op[4]]
        readings = {value for number, writing, value, began, ended in known if not writing}
        self.ops = [op for op in known if not op[1] or op[4] < 1000001 or op[2] in readings]

    def found(self):
        """Whether all can be put in a row, none behind one that began when it had ended."""
        tried = set()
        ways = [(frozenset(), 0)]
        while ways:
            done, kept = ways.pop()
            if len(done) == len(self.ops):
                return True
            left = [op for op in self.ops if op[0] not in done]
            first_end = min(op[4] for op in left)
            for number, writing, value, began, ended in left:
                way = (done | {number}, value)
                if began <= first_end and (writing or value == kept) and way not in tried:
                    tried.add(way)
                    ways.append(way)
        return False

    def bounds(self, value):
        """The value's first end and its last beginning, each with the operation it's of."""
        mine = [op for op in self.ops if op[2] == value]
        first = min(((op[4], op[0]) for op in mine), default=None) if value else (0, None)
        return first, max(((op[3], op[0]) for op in mine), default=(0, None))

    def values(self):
        return [0] + sorted(op[2] for op in self.ops if op[1])

    def why(self):
        for one, other in itertools.combinations(self.values(), 2):
            (end, ending), (beginning, last) = self.bounds(one)
            (other_end, other_ending), (other_beginning, other_last) = self.bounds(other)
            if end < other_beginning and other_end < beginning:
                shown = {op[0] for op in self.ops if op[1] and op[2] in (one, other)}
                return [3] + sorted((shown | {ending, last, other_ending, other_last}) - {None})
        return [0]

    def order(self):
        """The first row of values, as they're counted, in which none is ahead of one that must be."""
        for row in itertools.permutations(self.values()):
            pairs = itertools.combinations(row, 2)
            if all(self.bounds(other)[0][0] >= self.bounds(one)[1][0] for one, other in pairs):
                ops = sorted(self.ops, key=lambda op: (row.index(op[2]), not op[1], op[3]))
                return [len(ops)] + [op[0] for op in ops]
        return [-33]


class Walks(unittest.TestCase):
    """Many calls by chance, the same each time, where asked and told are few."""

    def walk(self, chance):
        machines = chance.randint(2, 3)
        talk = Talk(machines, 4, 1, chance.randint(1, machines), chance.randint(0, 1))
        values = chance.sample(range(1, 41), 40)
        for step in range(150):
            name = chance.choice(["alone", "read", "deliver"] * 3 + ["resend", "write", "stop", "wake"] * 2 + ["lose"])
            state = talk.ask("state")
            most = {"stop": state[1], "wake": state[1], "deliver": state[6], "lose": state[6]}.get(name, state[5])
            given = [chance.randrange(most or 1)] + ([values[step % 40]] if name == "write" else [])
            if name != "write" or sum(op[0] for op in talk.ops()) < 6:
                yield talk, talk.call(name, *given)
        talk.as_one_line(self)

    def test_as_the_document_tells_it(self):
        seen = {}
        for seed in range(200):
            since = 0
            for talk, answer in self.walk(random.Random(seed)):
                if answer[0] < 0 or len(answer) < 2:
                    continue
                reference = Reference(talk.ops())
                why = reference.why()
                if why[0] and not since:
                    since = talk.ask("state")[0]
                self.assertEqual(talk.ask("kept"), [int(reference.found())])
                self.assertEqual(talk.ask("why"), why)
                self.assertEqual(talk.ask("order"), [-33] if why[0] else reference.order())
                self.assertEqual(talk.ask("since"), [since])
                seen[len(why)] = seen.get(len(why), 0) + 1
        self.assertEqual(sorted(seen)[:5], [1, 3, 4, 5, 6])
