"""Tests of line: promise 3, and its refusals."""

import inspect
import itertools
import time
import unittest

from hatboxes.games import line

LOWEST, HIGHEST = -2147483648, 2147483647


def mixed_hats(n, q):
    """Hats without a plain pattern, the same at every run."""
    return [(place * place * 37 + place * 11 + n) // 7 % q for place in range(n)]


def said_by_the_words(q, hats):
    """The promise word by word, with each sum taken anew."""
    said = []
    for person in range(len(hats)):
        seen = sum(hats[person + 1:])
        if person == 0:
            said.append(seen % q)
        else:
            said.append((said[0] - sum(said[1:person]) - seen) % q)
    return said


class LineCase(unittest.TestCase):
    def check(self, q, hats, said):
        answer = line(len(hats), q, hats)
        # assertEqual would take minutes to tell how two long lists differ.
        if answer != [0] + said:
            self.fail(f"{len(hats)} hats, {q} colours: {answer[:8]}, not {[0] + said[:7]} (the first of each)")

    def check_refused(self, refusal, n, q, hats):
        with self.subTest(n=n, q=q, first_hats=hats[:8]):
            self.assertEqual(line(n, q, hats)[:8], [refusal])


class OrdinaryInputs(LineCase):
    def test_person_0_says_what_the_others_hats_leave(self):
        self.check(5, [4, 1, 2], [3, 1, 2])
        self.check(5, [4, 3, 2], [0, 3, 2])
        self.check(5, [0, 4, 4, 4], [2, 4, 4, 4])
        self.check(2, [1, 1, 0, 1, 1], [1, 1, 0, 1, 1])
        self.check(10, [7, 9, 9, 9, 8], [5, 9, 9, 9, 8])

    def test_the_hat_of_person_0_is_of_no_account(self):
        for hat in range(7):
            self.check(7, [hat, 6, 5, 3], [0, 6, 5, 3])

    def test_a_difference_below_0_is_brought_above_it(self):
        # Person 0 says 1; person 1 sees 2, and says what 1 - 2 leaves by 3.
        self.check(3, [0, 2, 2], [1, 2, 2])
        # Person 0 says 0 each time, so what the others take away is below 0 at once.
        self.check(3, [1, 1, 2], [0, 1, 2])
        self.check(200, [5, 100, 99, 1], [0, 100, 99, 1])
        self.check(4, [3, 3, 3, 3, 3], [0, 3, 3, 3, 3])

    def test_everyone_but_person_0_says_their_own_hat(self):
        for n, q in ((2, 2), (7, 3), (40, 6), (100, 17), (255, 200), (1000, 199)):
            hats = mixed_hats(n, q)
            self.check(q, hats, [sum(hats[1:]) % q] + hats[1:])

    def test_all_hats_of_few_persons(self):
        for n in range(6):
            for q in (1, 2, 3, 4) if n < 5 else (2, 3):
                for hats in itertools.product(range(q), repeat=n):
                    self.check(q, list(hats), said_by_the_words(q, hats))

    def test_every_number_of_colours(self):
        for q in range(1, 201):
            for n in (2, 9, 30):
                hats = mixed_hats(n, q)
                self.check(q, hats, said_by_the_words(q, hats))


class Edges(LineCase):
    def test_nobody(self):
        for q in (1, 2, 199, 200):
            self.check(q, [], [])

    def test_one_person_says_0(self):
        self.check(1, [0], [0])
        self.check(2, [0], [0])
        self.check(2, [1], [0])
        self.check(200, [199], [0])

    def test_two_persons_say_the_hat_of_person_1(self):
        self.check(2, [0, 1], [1, 1])
        self.check(200, [199, 0], [0, 0])
        self.check(200, [0, 199], [199, 199])

    def test_one_colour(self):
        for n in (1, 2, 3, 50, 4096):
            self.check(1, [0] * n, [0] * n)

    def test_two_colours(self):
        self.check(2, [0, 1, 1, 1], [1, 1, 1, 1])
        self.check(2, [1, 0, 1, 1], [0, 0, 1, 1])

    def test_the_least_and_the_greatest_colour(self):
        for q in (2, 3, 199, 200):
            self.check(q, [0] * 6, [0] * 6)
            # Five hats of q - 1 are 5 less than five times q.
            self.check(q, [q - 1] * 6, [-5 % q] + [q - 1] * 5)
            self.check(q, [0, q - 1, 0, q - 1], [-2 % q, q - 1, 0, q - 1])

    def test_the_longest_line(self):
        for q in (1, 2, 3, 200):
            hats = mixed_hats(4096, q)
            self.check(q, hats, [sum(hats[1:]) % q] + hats[1:])
        # 4095 hats of 199 leave what -4095 leaves by 200.
        self.check(200, [199] * 4096, [105] + [199] * 4095)
        self.check(200, [0] * 4096, [0] * 4096)

    def test_the_longest_line_is_soon_answered(self):
        hats = mixed_hats(4096, 200)
        start = time.process_time()
        line(4096, 200, hats)
        self.assertLess(time.process_time() - start, 3)


class OutOfRange(LineCase):
    def test_n(self):
        for n in (-1, 4097, -2, 4098, 65536, LOWEST, HIGHEST):
            self.check_refused(-2, n, 2, [])
            self.check_refused(-2, n, 200, [])

    def test_q(self):
        for q in (0, 201, -1, 202, 255, 256, LOWEST, HIGHEST):
            self.check_refused(-2, 0, q, [])
            self.check_refused(-2, 1, q, [0])
            self.check_refused(-2, 3, q, [0, 1, 0])
            self.check_refused(-2, 4096, q, [0] * 4096)

    def test_both(self):
        for n, q in itertools.product((-1, 4097, LOWEST, HIGHEST), (0, 201, LOWEST, HIGHEST)):
            self.check_refused(-2, n, q, [])

    def test_it_comes_before_a_hat_that_is_no_colour(self):
        for q in (0, 201, -1, LOWEST, HIGHEST):
            self.check_refused(-2, 3, q, [255, 255, 255])
            self.check_refused(-2, 3, q, [0, 201, 0])
            self.check_refused(-2, 1, q, [200])


class NoColour(LineCase):
    def test_in_every_place(self):
        for n in (1, 2, 3, 6):
            for q in (1, 2, 3, 199, 200):
                for place, hat in itertools.product(range(n), (q, q + 1, 255)):
                    hats = [q - 1] * n
                    hats[place] = hat
                    self.check_refused(-3, n, q, hats)

    def test_in_all_places(self):
        for q in (1, 2, 200):
            self.check_refused(-3, 4, q, [q] * 4)
            self.check_refused(-3, 4, q, [255] * 4)

    def test_in_the_longest_line(self):
        for place in (0, 1, 2048, 4095):
            hats = [0] * 4096
            hats[place] = 200
            self.check_refused(-3, 4096, 200, hats)
            # 199 is a colour where there are 200, but not where there are 199.
            hats[place] = 199
            self.assertEqual(line(4096, 200, hats)[0], 0)
            self.check_refused(-3, 4096, 199, hats)


class HowItIsCalled(unittest.TestCase):
    def test_names_of_the_arguments(self):
        self.assertEqual(str(inspect.signature(line)), "(n, q, hats)")

    def test_answers_are_lists_of_whole_numbers(self):
        for n, q, hats in ((0, 2, []), (4, 3, [0, 1, 2, 1]), (1, 0, [0]), (1, 1, [1])):
            answer = line(n, q, hats)
            self.assertIs(type(answer), list)
            self.assertEqual({type(number) for number in answer}, {int})

    def test_what_is_handed_in_stays_and_a_second_call_answers_the_same(self):
        for q, hats in ((3, [2, 1, 0, 2]), (2, []), (2, [1]), (3, [0, 3, 1]), (201, [0, 255]), (5, mixed_hats(60, 5))):
            before = list(hats)
            first = line(len(hats), q, hats)
            kept = list(first)
            first.append(99)
            line(2, 9, [8, 7])
            self.assertEqual(line(len(hats), q, hats), kept)
            self.assertEqual(hats, before)


if __name__ == "__main__":
    unittest.main()
