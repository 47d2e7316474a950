"""'What holds': a to g, by lines of calls."""

import copy
import itertools
import random
import unittest

from helper import MOST, Talk

IDLE = 0
LEFT = 3


def all_told(talk):
    """All that can be told of an object."""
    state = talk.ask("state")
    told = [talk.ask(name) for name in ("state", "kept", "why", "order", "since", "now", "safe")]
    for name, many in (("machine", state[1]), ("customer", state[5]), ("message", state[6]), ("op", state[7])):
        told.append([talk.ask(name, number) for number in range(many)])
    return told


def begun(chance, safe):
    machines = chance.randint(1, 5)
    asked, told = chance.randint(1, machines), chance.randint(1, machines)
    if safe and asked + told <= machines:
        told = machines + 1 - asked
    return Talk(machines, 4, asked, told, 1 if safe else chance.randint(0, 1))


def some_call(chance, talk):
    state = talk.ask("state")
    name = chance.choice(
        ["deliver"] * 30 + ["write", "read", "resend"] * 4 + ["alone", "again", "lose", "stop", "wake"] * 2 + ["quit"]
    )
    if name == "quit" and chance.random() < 0.8:
        name = "deliver"
    # Customer 3 stays idle, so that there's one to read just now.
    most = {"deliver": state[6], "again": state[6], "lose": state[6], "stop": state[1], "wake": state[1]}.get(name, 3)
    given = [chance.randrange(most or 1)] + ([chance.randint(1, 40)] if name == "write" else [])
    return name, given


def walks(case, many, safe):
    """Lines of 200 calls by chance, the same each time; told one by one as they go on."""
    for seed in range(many):
        chance = random.Random(seed)
        talk = begun(chance, safe)
        for step in range(200):
            yield talk, chance
            name, given = some_call(chance, talk)
            talk.call(name, *given)
        talk.as_one_line(case)


def told_to_first(machines, asked, told, on, hears):
    """Customer 0's writing of 7, told to the first machines alone, so many as it says."""
    talk = Talk(machines, 4, asked, told, on)
    talk.call("write", 0, 7)
    talk.asks(0, range(asked))
    for machine in range(hears):
        talk.come(2, 0, machine)
    return talk


class AlwaysWhereItIsSafe(unittest.TestCase):
    def test_a_whatever_happens(self):
        ended = 0
        for talk, chance in walks(self, 80, True):
            self.assertEqual(talk.ask("safe"), [1])
            self.assertEqual(talk.ask("kept"), [1])
            self.assertEqual(talk.ask("why"), [0])
            self.assertEqual(talk.ask("since"), [0])
            ended = max(ended, talk.ask("order")[0])
        self.assertGreater(ended, 12)

    def test_a_what_one_has_read_all_read_later(self):
        for machines in range(1, 6):
            for asked, told in itertools.product(range(1, machines + 1), repeat=2):
                if asked + told <= machines:
                    continue
                one = told_to_first(machines, asked, told, 1, 1)
                one.call("quit", 0)
                one.call("read", 1)
                one.asks(1, range(asked))
                self.assertEqual(one.tells(1, range(told)), [4, 1, 7])
                for answering in itertools.combinations(range(machines), asked):
                    talk = copy.deepcopy(one)
                    talk.call("read", 2)
                    talk.asks(2, answering)
                    self.assertEqual(talk.tells(2, range(machines - told, machines)), [4, 2, 7])
                    self.assertEqual(talk.call("order"), [3, 0, 1, 2])
                    talk.as_one_line(self)

    def test_c_whatever_now_tells_can_be_read(self):
        seen = {}
        for talk, chance in walks(self, 60, True):
            state = talk.ask("state")
            if chance.random() < 0.8 or state[7] == 20 or state[6] + state[1] > 60:
                continue
            told = talk.ask("now")
            seen[told[0]] = seen.get(told[0], 0) + 1
            for value in told[1:]:
                self.reads_just_now(copy.deepcopy(talk), value)
        self.assertEqual(sorted(seen)[:4], [0, 1, 2, 3])

    def reads_just_now(self, talk, value):
        """Customer 3 reads it, for those who answer are one that keeps it and none that keeps a newer one."""
        state = talk.ask("state")
        machines = [talk.ask("machine", machine) for machine in range(state[1])]
        up = [machine for machine, told in enumerate(machines) if told[0] == 1]
        for one in [machine for machine in up if machines[machine][3] == value]:
            others = [other for other in up if other != one and machines[other][1:3] <= machines[one][1:3]]
            if len(others) + 1 >= state[2]:
                talk.call("read", 3)
                talk.asks(3, ([one] + others)[:state[2]])
                for machine in range(state[1]):
                    talk.call("wake", machine)
                self.assertEqual(talk.tells(3, range(state[3])), [4, state[7], value])
                self.assertEqual(talk.call("kept"), [1])
                return
        self.fail(f"no machine that's up keeps {value}")


class BothAreNeeded(unittest.TestCase):
    def test_b_where_readers_do_not_tell_it_on(self):
        for machines in range(2, 6):
            for asked, told in itertools.product(range(1, machines), range(1, machines + 1)):
                talk = told_to_first(machines, asked, told, 0, 1)
                talk.call("read", 1)
                self.assertEqual(talk.asks(1, range(asked)), [4, 1, 7])
                self.assertEqual(talk.call("kept"), [1])
                talk.call("read", 2)
                self.assertEqual(talk.asks(2, range(1, asked + 1)), [4, 2, 0])
                self.assertEqual(talk.call("safe"), [0])
                self.assertEqual(talk.call("kept"), [0])
                self.assertEqual(talk.call("why"), [3, 0, 1, 2])
                self.assertEqual(talk.call("since"), [talk.call("state")[0]])
                talk.as_one_line(self)

    def test_b_where_asked_and_told_are_as_many_as_all(self):
        for machines in range(2, 6):
            for asked in range(1, machines):
                told = machines - asked
                for on in (0, 1):
                    talk = told_to_first(machines, asked, told, on, told)
                    self.assertEqual([talk.come(3, 0, machine) for machine in range(told)][-1], [4, 0, 7])
                    talk.call("read", 1)
                    answer = talk.asks(1, range(told, machines))
                    if on:
                        self.assertEqual(talk.call("kept"), [1])
                        answer = talk.tells(1, range(told))
                    self.assertEqual(answer, [4, 1, 0])
                    self.assertEqual(talk.call("safe"), [0])
                    self.assertEqual(talk.call("kept"), [0])
                    self.assertEqual(talk.call("why"), [3, 0, 1])
                    self.assertEqual(talk.call("since"), [talk.call("state")[0]])
                    talk.as_one_line(self)


class WhoeverIsUnderWay(unittest.TestCase):
    def test_d_can_end_where_enough_machines_are_up(self):
        ended = 0
        for talk, chance in walks(self, 60, False):
            if chance.random() < 0.95:
                continue
            later = copy.deepcopy(talk)
            machines, asked, told = later.ask("state")[1:4]
            up = chance.sample(range(machines), max(asked, told))
            for machine in range(machines):
                later.call("wake" if machine in up else "stop", machine)
            while later.ask("state")[6]:
                later.call("lose", 0)
            for customer in range(4):
                if later.ask("customer", customer)[0] not in (IDLE, LEFT):
                    later.call("resend", customer)
                    self.assertEqual(later.call("alone", customer)[1], 1)
                    self.assertEqual(later.ask("customer", customer)[0], IDLE)
                    ended += 1
        self.assertGreater(ended, 100)


class WhatMachinesKeep(unittest.TestCase):
    def test_e_only_gets_newer(self):
        for safe in (False, True):
            kept = []
            for talk, chance in walks(self, 50, safe):
                state = talk.ask("state")
                tags = [talk.ask("machine", machine)[1:3] for machine in range(state[1])]
                if state[0]:
                    self.assertTrue(all(tag >= before for tag, before in zip(tags, kept)))
                kept = tags

    def test_e_like_tags_of_like_values(self):
        for talk, chance in walks(self, 50, True):
            machines = [talk.ask("machine", machine) for machine in range(talk.ask("state")[1])]
            for one, other in itertools.combinations(machines, 2):
                self.assertTrue(one[1:3] != other[1:3] or one[3] == other[3])


class MessagesThatComeTwice(unittest.TestCase):
    def test_f_to_a_customer_do_nothing_more(self):
        seen = {}
        for talk, chance in walks(self, 60, False):
            places = [place for place, told in enumerate(talk.row()) if told[0] in (1, 3)]
            if chance.random() < 0.8 or not places or len(talk.row()) >= 60:
                continue
            twice = copy.deepcopy(talk)
            place = chance.choice(places)
            twice.call("again", place)
            first = twice.call("deliver", place)
            # What it sent, if it sent anything, stands behind its copy.
            behind = twice.row()
            copied = behind.index(talk.row()[place], len(talk.row()) - 1)
            before = all_told(twice)
            self.assertEqual(twice.call("deliver", copied), [0])
            after = all_told(twice)
            self.assertEqual(after[0][0], before[0][0] + 1)
            self.assertEqual(after[9], before[9][:copied] + before[9][copied + 1:])
            self.assertEqual(after[1:9] + after[10:], before[1:9] + before[10:])
            seen[first[0]] = seen.get(first[0], 0) + 1
        self.assertEqual(sorted(seen), [0, 2, 3, 4])


class WhatIsRefused(unittest.TestCase):
    # Each call with the place of how many there are among what state tells.
    ONE_TOO_GREAT = (
        ("machine", 1), ("stop", 1), ("wake", 1),
        ("customer", 5), ("read", 5), ("quit", 5), ("resend", 5), ("alone", 5),
        ("message", 6), ("deliver", 6), ("lose", 6), ("again", 6), ("op", 7),
    )

    def test_g_changes_nothing(self):
        seen = {}
        for talk, chance in walks(self, 30, False):
            before = all_told(talk)
            name, given = some_call(chance, talk)
            answered = talk.call(name, *given)
            if answered[0] < 0:
                self.assertEqual(all_told(talk), before)
                seen[answered[0]] = seen.get(answered[0], 0) + 1
        self.assertEqual(sorted(seen), [-28, -17, -16, -2])

    def test_g_none_such(self):
        for talk, chance in walks(self, 20, False):
            if chance.random() < 0.9:
                continue
            before = all_told(talk)
            for name, place in self.ONE_TOO_GREAT:
                for number in (before[0][place], before[0][place] + 1, MOST):
                    self.assertEqual(talk.ask(name, number), [-2])
            for number in (before[0][5], MOST):
                self.assertEqual(talk.ask("write", number, 0), [-2])
            self.assertEqual(talk.ask("begin", 1, 1, 1, 2, 1), [-22])
            self.assertEqual(talk.ask("order")[0] == -33, before[1] == [0])
            self.assertEqual(all_told(talk), before)
