"""The form of what is handed in and given back, and calls ahead of a begin."""

import unittest

from enoughasked.keepers import answers
from helper import ARGUMENTS, CHANGES, MOST, NAMES, TELLS, apart, check, flat, play


class Untouched(list):
    """A list that can't be changed, not for a while either."""

    def refuse(self, *given, **named):
        raise AssertionError("what is handed in was changed")

    __setitem__ = __delitem__ = __iadd__ = __imul__ = refuse
    append = extend = insert = pop = remove = clear = sort = reverse = refuse


TOUR = """
    begin 3 2 2 2 1
    write 0 7
    read 1
    deliver 0
    again 0
    lose 0
    stop 2
    wake 2
    resend 0
    alone 0
    quit 1
    quit 1 = -16
    message 0
    machine 0
    customer 1
    op 0
    kept
    why
    order
    since
    now
    safe
    state
"""


class TheForm(unittest.TestCase):
    def test_how_many_numbers_then_these(self):
        calls = [0, 1, 1, 1, 1, 1, 1, 0, 7, 3, 0, 3, 0, 3, 0, 3, 0, 3, 0, 2, 0, 10, 0]
        due = [1, 0, 1, 0, 1, 1, 1, 3, 1, 1, 3, 4, 0, 7, 1, -2, 1, 1, 2, 4, 1]
        self.assertEqual(answers(calls), due)

    def test_one_call(self):
        self.assertEqual(answers([0, 3, 2, 2, 2, 1]), [1, 0])
        self.assertEqual(answers([0, 6, 2, 2, 2, 1]), [1, -22])
        self.assertEqual(answers([10, 0]), [1, -11])

    def test_a_refusal_is_its_number_alone(self):
        self.assertEqual(answers(flat("begin 1 1 1 1 1\nalone 0\ndeliver 0")), [1, 0, 1, -16, 1, -2])
        self.assertEqual(answers([0, 1, 1, 1, 1, 1, 11, 0, 12, 1, 13, 1, 14, 0]), [1, 0] + [1, -2] * 4)

    def test_how_many_numbers_those_that_tell_answer(self):
        # One machine, one customer, who asks for a writing of 7 at the time 1.
        calls = [0, 1, 1, 1, 1, 1, 1, 0, 7, 11, 0, 12, 0, 13, 0, 14, 0, 15, 16, 17, 18, 19, 20, 21]
        self.assertEqual(answers(calls), [
            1, 0, 1, 0,
            7, 0, 0, 0, 0, 0, 0, 0,
            4, 1, 0, 0, 0,
            6, 1, 0, 0, 0, 0, 0,
            5, 1, 0, 7, 1, 0,
            1, 1, 1, 0, 1, 0, 1, 0, 2, 1, 0, 1, 1,
            8, 1, 1, 1, 1, 1, 1, 1, 1,
        ])

    def test_how_many_numbers_where_moments_cannot_be_found(self):
        # Two machines, one asked and one told: 7 is written to the one, then the other is asked.
        calls = [0, 2, 2, 1, 1, 0, 6, 1, 1, 0, 7, 10, 0, 6, 0, 7, 1, 2, 1, 10, 1]
        due = [1, 0, 1, 0, 1, 0, 2, 6, 1, 1, 0, 1, 0, 1, 1, 2, 3, 1]
        self.assertEqual(answers(calls + [15, 16, 17, 18]), due + [1, 0, 3, 3, 0, 1, 1, -33, 1, 7])

    def test_only_whole_numbers_are_given_back(self):
        given_back = answers(flat(TOUR))
        self.assertIs(type(given_back), list)
        self.assertEqual({type(number) for number in given_back}, {int})

    def test_four_hundred_calls(self):
        check(self, "begin 5 4 5 5 1 = 0\n399 * deliver 0 = -2")

    def test_what_is_handed_in_stays_as_it_was(self):
        handed_in = Untouched(flat(TOUR))
        answers(handed_in)
        self.assertEqual(list(handed_in), flat(TOUR))

    def test_what_is_given_back_is_a_list_of_its_own(self):
        handed_in = flat(TOUR)
        first = answers(handed_in)
        first.append(99)
        self.assertEqual(answers(handed_in), first[:-1])

    def test_nothing_is_kept_from_one_time_to_the_next(self):
        self.assertEqual(play(TOUR), play(TOUR))
        for name, count in list(zip(NAMES, ARGUMENTS))[1:]:
            self.assertEqual(play(" ".join([name] + ["0"] * count)), [[-11]])


class AheadOfABegin(unittest.TestCase):
    def every_call(self, number):
        return "\n".join(
            " ".join([name] + [str(number)] * count) + " = -11"
            for name, count in list(zip(NAMES, ARGUMENTS))[1:]
        )

    def test_all_others_answer_not_begun(self):
        for number in (0, 1, 40, 41, MOST):
            check(self, (self.every_call(number) + "\n") * 2)

    def test_a_refused_begin_does_not_begin(self):
        for refused in ("0 1 1 1 1", "6 1 1 1 1", "1 0 1 1 1", "1 1 2 1 1", "1 1 1 0 1", "1 1 1 1 2"):
            check(self, f"begin {refused} = -22\n" + self.every_call(0))

    def test_begun_by_the_first_that_answers_0(self):
        check(self, """
            write 0 1 = -11
            begin 1 1 1 1 2 = -22
            write 0 1 = -11
            begin 1 1 1 1 1 = 0
            write 0 1 = 0
        """)

    def test_none_of_the_others_is_not_begun_afterwards(self):
        for number in [*CHANGES, *TELLS]:
            call = " ".join([NAMES[number]] + ["0"] * ARGUMENTS[number])
            self.assertNotEqual(play(f"begin 1 1 1 1 1\n{call}")[1], [-11], call)

    def test_what_was_called_ahead_of_it_did_nothing(self):
        given_back = apart(answers(flat("write 0 7\nquit 0\nstop 0\n" + TOUR)))
        self.assertEqual(given_back, [[-11]] * 3 + play(TOUR))
