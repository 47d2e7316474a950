"""What the calls of points 1 and 2 leave behind and don't answer: time, messages, refused calls."""

import random
import unittest

from enoughasked.line import Line
from helper import ARGUMENTS, CHANGES, MOST, NAMES, line_after, picture, rows, under_way

# Each call once as it's refused for each of its reasons, behind what makes it refused.
REFUSED = (
    ("", "write 0 1, read 0, deliver 0, lose 0, again 0, stop 0, wake 0, quit 0, resend 0, alone 0"),
    ("begin 3 2 2 2 1", "begin 0 2 2 2 1, begin 3 5 2 2 1, begin 3 2 4 2 1, begin 3 2 2 0 1, begin 3 2 2 2 2"),
    ("begin 3 2 2 2 1", "write 2 1, read 2, deliver 0, lose 0, again 0, stop 3, wake 3, quit 2, resend 2, alone 2"),
    ("begin 3 2 2 2 1", "write 0 0, write 0 41, wake 0, resend 0, alone 0"),
    ("begin 3 2 2 2 1\nwrite 0 7\nstop 1", "write 0 8, write 1 7, read 0, stop 1, deliver 3, lose 3, again 3"),
    ("begin 3 2 2 2 1\nread 0\nquit 0", "write 0 8, read 0, quit 0, resend 0, alone 0"),
    ("begin 1 2 1 1 1\nread 0\n59 * again 0", "write 1 7, read 1, again 0, again 60, resend 0"),
    ("begin 1 1 1 1 0\n" + "read 0\nalone 0\n" * 20, "write 0 7, read 0"),
)


class Time(unittest.TestCase):
    def time(self, text):
        return line_after(text).store.time

    def test_0_at_the_beginning(self):
        self.assertEqual(self.time("begin 3 2 2 2 1"), 0)
        self.assertEqual(self.time("begin 3 2 2 2 1\nread 0\nstop 0\nbegin 3 2 2 2 1"), 0)

    def test_one_more_with_each_call(self):
        text = "begin 2 2 2 2 1\n"
        calls = "write 0 7,again 0,deliver 0,lose 0,stop 0,wake 0,resend 0,alone 0,read 0,quit 0".split(",")
        self.assertEqual(sorted(NAMES.index(call.split()[0]) for call in calls), list(CHANGES))
        for passed, call in enumerate(calls):
            text += call + "\n"
            self.assertEqual(self.time(text), passed + 1, call)

    def test_one_more_whether_anything_else_changes_or_not(self):
        self.assertEqual(self.time("begin 2 1 2 2 1\nread 0\nstop 0\ndeliver 0\nlose 0\nalone 0"), 5)

    def test_beginnings_and_ends(self):
        ops = line_after("""
            begin 1 2 1 1 0
            write 0 7
            write 0 8 = -16
            read 1
            lose 9 = -2
            alone 0
            deliver 0
            stop 0
            deliver 0
            read 1
        """).store.ops
        self.assertEqual([(op.began, op.ended, op.value) for op in ops], [(1, 3, 7), (2, 6, 7), (7, 0, 0)])

    def test_one_who_leaves_never_ends(self):
        ops = line_after("begin 1 1 1 1 0\nread 0\ndeliver 0\nquit 0\ndeliver 0").store.ops
        self.assertEqual([(op.began, op.ended) for op in ops], [(1, 0)])


class AtTheBeginning(unittest.TestCase):
    def test_machines_and_customers(self):
        for text in ("begin 5 4 5 5 1", "begin 5 4 1 1 0\nwrite 3 7\nalone 3\nstop 4\nquit 2\nbegin 5 4 5 5 1"):
            store = line_after(text).store
            machines = [(each.up, each.tag, each.value) for each in store.machines]
            customers = [(each.how, each.op, each.counted, each.tag, each.value) for each in store.customers]
            self.assertEqual(machines, [(True, (0, 0), 0)] * 5)
            self.assertEqual(customers, [(0, 0, [], (0, 0), 0)] * 4)
            self.assertEqual((store.time, store.under_way, store.ops), (0, [], []))

    def test_what_a_machine_answers(self):
        self.assertEqual(under_way("begin 1 2 1 1 1\nread 1\ndeliver 0"), [(1, 1, 0, 0, (0, 0), 0)])


class AloneForLong(unittest.TestCase):
    def test_no_more_than_400_come(self):
        # No line of calls has so many under way: they are put there by hand.
        for many, due in ((399, [399, 0]), (400, [400, 0]), (401, [400, 0]), (500, [400, 0])):
            line = line_after("begin 1 1 1 1 1\nread 0\nstop 0")
            line.store.under_way = line.store.under_way * many
            self.assertEqual(line.answer(10, [0]), due)
            self.assertEqual(len(line.store.under_way), many - due[0])

    def test_it_may_end_by_the_400th(self):
        for many, due in ((397, [399, 1]), (398, [400, 1]), (399, [400, 0]), (400, [400, 0])):
            line = line_after("begin 2 1 1 1 0\nread 0\nstop 0")
            to_stopped, to_other = line.store.under_way
            line.store.under_way = [to_stopped] * many + [to_other]
            self.assertEqual(line.answer(10, [0]), due)


class MessagesUnderWay(unittest.TestCase):
    def test_asked(self):
        due = [(0, 1, machine, 0, (0, 0), 0) for machine in range(5)]
        self.assertEqual(under_way("begin 5 2 5 5 1\nwrite 1 7"), due)
        self.assertEqual(under_way("begin 5 2 5 5 1\nread 1"), due)

    def test_asked_again_whatever_is_known_by_now(self):
        known = "begin 2 2 2 1 1\nwrite 0 7\nalone 0\nlose 0\nread 1\ndeliver 0\ndeliver 1\nlose 0\nresend 1"
        self.assertEqual(under_way(known), [(0, 1, 0, 1, (0, 0), 0), (0, 1, 1, 1, (0, 0), 0)])

    def test_answered_told_and_heard_by_a_writer(self):
        text = "begin 1 3 1 1 1\nwrite 1 7\nalone 1\nwrite 2 8\ndeliver 0\n"
        self.assertEqual(under_way(text), [(1, 2, 0, 1, (1, 1), 7)])
        text += "deliver 0\n"
        self.assertEqual(under_way(text), [(2, 2, 0, 1, (2, 2), 8)])
        self.assertEqual(under_way(text + "resend 2"), [(2, 2, 0, 1, (2, 2), 8)] * 2)
        self.assertEqual(under_way(text + "again 0"), [(2, 2, 0, 1, (2, 2), 8)] * 2)
        self.assertEqual(under_way(text + "deliver 0"), [(3, 2, 0, 1, (2, 2), 8)])

    def test_answered_told_and_heard_by_a_reader(self):
        text = "begin 1 3 1 1 1\nwrite 1 7\nalone 1\nread 2\ndeliver 0\n"
        self.assertEqual(under_way(text), [(1, 2, 0, 1, (1, 1), 7)])
        text += "deliver 0\n"
        self.assertEqual(under_way(text), [(2, 2, 0, 1, (1, 1), 7)])
        self.assertEqual(under_way(text + "resend 2"), [(2, 2, 0, 1, (1, 1), 7)] * 2)
        self.assertEqual(under_way(text + "deliver 0"), [(3, 2, 0, 1, (1, 1), 7)])

    def test_heard_with_the_tag_told_though_a_newer_one_is_kept(self):
        text = "begin 1 2 1 1 1\nwrite 0 5\nwrite 1 6\n4 * deliver 0\ndeliver 1\ndeliver 0"
        self.assertEqual(under_way(text), [(3, 1, 0, 1, (1, 1), 6), (3, 0, 0, 0, (1, 0), 5)])
        machine = line_after(text).store.machines[0]
        self.assertEqual((machine.tag, machine.value), ((1, 1), 6))

    def test_one_who_left_is_as_they_were(self):
        text = "begin 3 1 2 2 1\nwrite 0 7\n2 * deliver 0\n2 * deliver 1\nlose 0\ndeliver 0\ndeliver 2\n"
        asked = line_after(text).store.customers[0]
        left = line_after(text + "quit 0\n3 * deliver 0").store.customers[0]
        self.assertEqual((asked.how, left.how), (2, 3))
        for who in (asked, left):
            self.assertEqual((who.op, who.counted, who.tag, who.value), (0, [0], (1, 0), 7))

    def test_one_who_is_idle_knows_nothing(self):
        who = line_after("begin 1 1 1 1 1\nread 0\nalone 0\nwrite 0 7\nalone 0").store.customers[0]
        self.assertEqual((who.how, who.op, who.counted, who.tag, who.value), (0, 1, [], (0, 0), 0))


class Refused(unittest.TestCase):
    def test_a_refused_call_changes_nothing(self):
        for text, calls in REFUSED:
            line = line_after(text)
            for row, numbers, due in rows(calls.replace(",", "\n")):
                before = picture(line)
                self.assertLess(line.answer(numbers[0], numbers[1:])[0], 0, row)
                self.assertEqual(picture(line), before, row)


class Walks(unittest.TestCase):
    """Many calls by chance, the same each time."""

    def some_number(self, chance, most):
        return chance.choice((most, most + 1, MOST)) if chance.random() < 0.05 else chance.randrange(most)

    def some_call(self, chance, store):
        name = chance.choice(
            ["deliver"] * 12 + ["write", "read", "resend"] * 3 + ["lose", "again", "stop", "wake", "alone"]
            + ["quit"] * (chance.random() < 0.1)
        )
        number = NAMES.index(name)
        if name in ("deliver", "lose", "again"):
            return number, [self.some_number(chance, max(1, len(store.under_way)))]
        if name in ("stop", "wake"):
            return number, [self.some_number(chance, len(store.machines))]
        return number, [self.some_number(chance, len(store.customers)), chance.randrange(42)][:ARGUMENTS[number]]

    def begun(self, chance):
        line = Line()
        machines = chance.randint(1, 5)
        given = [machines, chance.randint(1, 4), chance.randint(1, machines), chance.randint(1, machines)]
        self.assertEqual(line.answer(0, given + [chance.randint(0, 1)]), [0])
        return line

    def walk(self, line, chance, seen):
        for step in range(150):
            store = line.store
            number, given = self.some_call(chance, store)
            before, time = picture(line), store.time
            tags = [machine.tag for machine in store.machines]
            answer = line.answer(number, given)
            if answer[0] < 0:
                self.assertEqual(len(answer), 1)
                self.assertEqual(picture(line), before)
            else:
                self.assertEqual(store.time, time + 1)
            seen.add((NAMES[number], min(answer[0], 1)))
            for machine, tag in zip(store.machines, tags):
                self.assertGreaterEqual(machine.tag, tag)
            self.same_tags_have_same_values(store)

    def same_tags_have_same_values(self, store):
        if store.asked + store.told > len(store.machines):
            kept = {}
            for machine in store.machines:
                self.assertEqual(kept.setdefault(machine.tag, machine.value), machine.value)

    def all_can_end(self, line):
        """With all machines up, whoever is at work ends by what's sent again and comes."""
        store = line.store
        for machine in range(len(store.machines)):
            line.answer(7, [machine])
        while store.under_way:
            line.answer(4, [0])
        for customer, who in enumerate(store.customers):
            if who.how in (1, 2):
                self.assertEqual(line.answer(9, [customer]), [len(store.under_way)])
                self.assertEqual(line.answer(10, [customer])[1], 1)
                self.assertEqual(who.how, 0)

    def test_what_always_holds(self):
        seen = set()
        for seed in range(120):
            chance = random.Random(seed)
            line = self.begun(chance)
            self.walk(line, chance, seen)
            self.all_can_end(line)
        for number in CHANGES:
            for refusal in (-2, -16):
                due = refusal == -2 or NAMES[number] in ("write", "read", "stop", "wake", "quit", "resend", "alone")
                self.assertEqual((NAMES[number], refusal) in seen, due, NAMES[number])
