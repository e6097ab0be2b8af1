"""Tests of code: promise 5, and its refusals."""

import inspect
import itertools
import time
import unittest

from hatboxes.games import code

LOWEST, HIGHEST = -2147483648, 2147483647
PASS = 2


def made_by_the_others(r, person, hats):
    """Bit by bit: 1 where an odd number of the others with hat 1 have that bit in their number."""
    numbers = [other + 1 for other, hat in enumerate(hats) if hat == 1 and other != person]
    return sum(len([number for number in numbers if number >> bit & 1]) % 2 << bit for bit in range(r))


def expected_code(r, hats):
    """Told person by person, with the numbers of the others taken anew each time."""
    guesses = []
    for person in range(len(hats)):
        made = made_by_the_others(r, person, hats)
        if made == person + 1:
            guesses.append(0)
        else:
            guesses.append(PASS if made else 1)
    return [0] + guesses


def mixed_row(r, salt):
    """Hats without a plain pattern, the same at every run."""
    return [(place * place * 37 + place * 11 + salt * 53) // 7 % 2 for place in range((1 << r) - 1)]


def row_with(r, persons):
    """The row in which just these persons wear hat 1."""
    return [1 if person in persons else 0 for person in range((1 << r) - 1)]


class CodeCase(unittest.TestCase):
    def check(self, r, hats, guesses):
        self.assertEqual(code(r, hats), [0] + guesses)

    def check_against_each_person(self, r, hats):
        self.assertEqual(code(r, hats), expected_code(r, hats))

    def check_refused(self, refusal, r, hats):
        with self.subTest(r=r, first_hats=hats[:8]):
            self.assertEqual(code(r, hats), [refusal])


class OrdinaryInputs(CodeCase):
    def test_all_hats_0_leave_nothing(self):
        self.check(2, [0, 0, 0], [1, 1, 1])

    def test_who_sees_nothing_guesses_1(self):
        self.check(2, [1, 0, 0], [1, PASS, PASS])
        self.check(2, [0, 1, 0], [PASS, 1, PASS])
        self.check(2, [0, 0, 1], [PASS, PASS, 1])

    def test_who_sees_their_own_number_guesses_0(self):
        # 2 and 3 make 1, 1 and 3 make 2, 1 and 2 make 3.
        self.check(2, [0, 1, 1], [0, PASS, PASS])
        self.check(2, [1, 0, 1], [PASS, 0, PASS])
        self.check(2, [1, 1, 0], [PASS, PASS, 0])

    def test_all_hats_1(self):
        self.check(2, [1, 1, 1], [0, 0, 0])

    def test_seven_persons(self):
        # 1 and 5 make 4, which is person 3's number.
        self.check(3, [1, 0, 0, 0, 1, 0, 0], [PASS, PASS, PASS, 0, PASS, PASS, PASS])
        # 1, 2 and 4 make 7, so person 6 is the one who guesses.
        self.check(3, [1, 1, 0, 1, 0, 0, 0], [PASS] * 6 + [0])
        # 3, 5 and 4 make 2; person 1 wears hat 0.
        self.check(3, [0, 0, 1, 1, 1, 0, 0], [PASS, 0, PASS, PASS, PASS, PASS, PASS])
        # 2, 6 and 1 make 5; without carries, 6 and 7 leave 1.
        self.check(3, [1, 1, 0, 0, 0, 1, 0], [PASS, PASS, PASS, PASS, 0, PASS, PASS])
        self.check(3, [0, 0, 0, 0, 0, 1, 1], [0, PASS, PASS, PASS, PASS, PASS, PASS])

    def test_all_numbers_together_make_nothing(self):
        # 1, 2 and 3 make nothing: who wears 1 sees their own number, the others see nothing.
        self.check(3, [1, 1, 1, 0, 0, 0, 0], [0, 0, 0, 1, 1, 1, 1])
        self.check(3, [0, 0, 0, 1, 1, 1, 1], [1, 1, 1, 0, 0, 0, 0])

    def test_just_one_guesses_and_rightly_or_all_guess_wrong(self):
        for r in (1, 2, 3, 4):
            lost = 0
            for hats in itertools.product((0, 1), repeat=(1 << r) - 1):
                guesses = code(r, list(hats))[1:]
                if guesses == [1 - hat for hat in hats]:
                    lost += 1
                else:
                    said = [(guess, hat) for guess, hat in zip(guesses, hats) if guess != PASS]
                    self.assertIn(said, ([(0, 0)], [(1, 1)]))
            # One row in 2 to the r.
            self.assertEqual(lost << r, 1 << (1 << r) - 1)


class AgainstEachPerson(CodeCase):
    def test_every_row_of_one_three_and_seven_persons(self):
        for r in (1, 2, 3):
            for hats in itertools.product((0, 1), repeat=(1 << r) - 1):
                self.check_against_each_person(r, list(hats))

    def test_some_rows_of_more_persons(self):
        for r, rows in ((4, 60), (5, 60), (6, 12), (7, 4)):
            for salt in range(rows):
                self.check_against_each_person(r, mixed_row(r, salt))

    def test_rows_in_which_few_wear_1(self):
        for persons in itertools.combinations((0, 1, 2, 3, 14, 15, 16, 29, 30), 2):
            self.check_against_each_person(5, row_with(5, persons))
            self.check_against_each_person(5, [1 - hat for hat in row_with(5, persons)])

    def test_some_rows_of_255_persons(self):
        for salt in range(4):
            self.check_against_each_person(8, mixed_row(8, salt))
        for persons in ((0,), (127,), (254,), (126, 127), (127, 128, 254), range(0, 255, 2), range(128)):
            self.check_against_each_person(8, row_with(8, persons))


class Edges(CodeCase):
    def test_one_person_guesses_1(self):
        self.check(1, [0], [1])
        self.check(1, [1], [1])

    def test_all_hats_0(self):
        for r in range(1, 9):
            self.check(r, row_with(r, ()), [1] * ((1 << r) - 1))

    def test_all_hats_1(self):
        # From r 2 on all numbers together make nothing.
        for r in range(2, 9):
            self.check(r, [1] * ((1 << r) - 1), [0] * ((1 << r) - 1))

    def test_each_person_of_255(self):
        for person in range(255):
            guesses = [PASS] * 255
            guesses[person] = 1
            self.check(8, row_with(8, (person,)), guesses)
            # All others wear 1: they make the number of the one who doesn't.
            guesses[person] = 0
            self.check(8, [1 - hat for hat in row_with(8, (person,))], guesses)

    def test_255_persons_are_soon_answered(self):
        hats = mixed_row(8, 3)
        start = time.process_time()
        code(8, hats)
        self.assertLess(time.process_time() - start, 3)


class OutOfRange(CodeCase):
    def test_r(self):
        for r in (0, 9, -1, 10, 255, 256, LOWEST, HIGHEST):
            self.check_refused(-2, r, [])


class NoColour(CodeCase):
    def test_in_the_first_a_middle_and_the_last_place(self):
        for r in range(1, 9):
            persons = (1 << r) - 1
            for place, hat in itertools.product((0, persons // 2, persons - 1), (2, 3, 128, 255)):
                for others in (0, 1):
                    hats = [others] * persons
                    hats[place] = hat
                    self.check_refused(-3, r, hats)

    def test_in_every_place_of_seven(self):
        for place, hat in itertools.product(range(7), (2, 255)):
            hats = mixed_row(3, place)
            hats[place] = hat
            self.check_refused(-3, 3, hats)

    def test_in_all_places(self):
        for r in range(1, 9):
            for hat in (2, 255):
                self.check_refused(-3, r, [hat] * ((1 << r) - 1))


class HowItIsCalled(unittest.TestCase):
    def test_names_of_the_arguments(self):
        self.assertEqual(str(inspect.signature(code)), "(r, hats)")

    def test_answers_are_lists_of_whole_numbers(self):
        for r, hats in ((1, [0]), (2, [1, 0, 1]), (3, mixed_row(3, 1)), (0, []), (2, [0, 2, 0])):
            answer = code(r, hats)
            self.assertIs(type(answer), list)
            self.assertEqual({type(number) for number in answer}, {int})

    def test_what_is_handed_in_stays_and_a_second_call_answers_the_same(self):
        for r, hats in ((1, [1]), (2, [1, 1, 0]), (3, [0] * 6 + [2]), (9, []), (5, mixed_row(5, 2)), (8, [1] * 255)):
            before = list(hats)
            first = code(r, hats)
            self.assertEqual(code(r, hats), first)
            kept = list(first)
            # A caller may do with the answer what they like.
            first.append(99)
            code(2, [0, 0, 1])
            self.assertEqual(code(r, hats), kept)
            self.assertEqual(hats, before)


if __name__ == "__main__":
    unittest.main()
