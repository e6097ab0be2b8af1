"""Tests of passing (the words' pass): promise 4, and its refusals."""

import inspect
import itertools
import time
import unittest

from hatboxes.games import passing

LOWEST, HIGHEST = -2147483648, 2147483647
PASS = 2


def others(v, n):
    return [u for u in range(n) if u != v]


def table_of(n, guess):
    """The table in which person v guesses guess(v, {other person: hat})."""
    table = []
    for v in range(n):
        for entry in range(1 << (n - 1)):
            # The lowest person is the lowest digit.
            table.append(guess(v, {u: entry >> place & 1 for place, u in enumerate(others(v, n))}))
    return table


def mixed_table(n, guesses, salt):
    """Some of the guesses, without a plain pattern, the same at every run."""
    length = n << (n - 1)
    return [guesses[(place * place * 37 + place * 11 + salt) // 7 % len(guesses)] for place in range(length)]


def expected_passing(n, table):
    """Told the other way round: what is made of each row as the table is gone through."""
    right, wrong = set(), set()
    rest = iter(table)
    for v in range(n):
        # product's last place turns fastest, and the lowest person is to.
        for digits in itertools.product((0, 1), repeat=n - 1):
            seen = digits[::-1]
            guess = next(rest)
            if guess != PASS:
                right.add(seen[:v] + (guess,) + seen[v:])
                wrong.add(seen[:v] + (1 - guess,) + seen[v:])
    return [len(right - wrong)]


def by_numbers(v, hats):
    """Persons are numbered from 1; those with hat 1 that are seen are taken together without carries."""
    together = 0
    for u, hat in hats.items():
        together ^= (u + 1) * hat
    return {0: 1, v + 1: 0}.get(together, PASS)


class PassingCase(unittest.TestCase):
    def check(self, n, table, won):
        self.assertEqual(passing(n, table), [won])

    def check_refused(self, refusal, n, table):
        with self.subTest(n=n, first_guesses=table[:8]):
            self.assertEqual(passing(n, table), [refusal])


class OrdinaryInputs(PassingCase):
    def test_one_right_while_the_other_passes(self):
        # Person 0 says 0 where person 1 wears 0: (0, 0) is won, (1, 0) isn't.
        self.check(2, [0, 2, 2, 2], 1)
        self.check(2, [2, 2, 2, 0], 1)
        # Person 1 always says 1, which is right in half of the rows.
        self.check(2, [2, 2, 1, 1], 2)

    def test_all_pass(self):
        self.check(2, [2, 2, 2, 2], 0)
        # (1, 0) is won and (0, 0) is lost; in the others all pass.
        self.check(2, [1, 2, 2, 2], 1)

    def test_one_right_and_another_wrong(self):
        # One says alike, one unlike: just one is right in every row.
        self.check(2, [0, 1, 1, 0], 0)
        # In (0, 0) person 0 is right and person 1 wrong; (0, 1) is won by person 1 alone.
        self.check(2, [0, 2, 1, 2], 1)

    def test_two_right_are_one_row(self):
        # Both are right in (0, 0); in (0, 1) and (1, 0) one is wrong, in (1, 1) both pass.
        self.check(2, [0, 2, 0, 2], 1)
        # Both say alike: (0, 0) and (1, 1).
        self.check(2, [0, 1, 0, 1], 2)
        # Both say unlike: (0, 1) and (1, 0).
        self.check(2, [1, 0, 1, 0], 2)

    def test_one_wrong_while_the_others_are_right(self):
        # 0 and 1 say 0, 2 says 1: won is (0, 0, 1) alone.
        self.check(3, [0] * 4 + [0] * 4 + [1] * 4, 1)
        # 0 says 0, 1 passes, 2 says 1: won are (0, x, 1).
        self.check(3, [0] * 4 + [2] * 4 + [1] * 4, 2)

    def test_entry_is_read_with_the_lowest_person_as_the_lowest_digit(self):
        # Person 0 says 1 where 1 and 2 wear 0; person 2 says 0 where 0 wears 1 and 1 wears 0:
        # both are right in (1, 0, 0), and no other row is won.
        self.check(3, [1, 2, 2, 2] + [2, 2, 2, 2] + [2, 0, 2, 2], 1)
        # Person 2 says 0 where 0 wears 0 and 1 wears 1 instead: (0, 1, 0) is another row.
        self.check(3, [1, 2, 2, 2] + [2, 2, 2, 2] + [2, 2, 0, 2], 2)

    def test_each_entry_of_each_person(self):
        # Each says what they wear in one row, if they see the hats of that row, else they pass:
        # that row is won, and by each of its neighbours somebody is wrong.
        for n in range(1, 7):
            for row in itertools.product((0, 1), repeat=n):
                fits = table_of(n, lambda v, hats: row[v] if all(row[u] == hats[u] for u in hats) else PASS)
                self.check(n, fits, 1)
                if n > 1:
                    # Person 0 says the other hat there, so that row is lost, but its neighbour is won.
                    part = 1 << (n - 1)
                    self.check(n, [1 - guess if guess != PASS else PASS for guess in fits[:part]] + fits[part:], 1)
                    self.check(n, [PASS] * part + fits[part:], 1)
                    self.check(n, fits[:part] + [PASS] * (len(fits) - part), 1)

    def test_all_say_what_makes_the_hats_together_even(self):
        for n in range(1, 9):
            self.check(n, table_of(n, lambda v, hats: sum(hats.values()) % 2), 1 << (n - 1))

    def test_one_says_what_another_wears(self):
        for n in range(2, 7):
            for v, u in itertools.permutations(range(n), 2):
                self.check(n, table_of(n, lambda w, hats: hats[u] if w == v else PASS), 1 << (n - 1))

    def test_each_says_what_the_next_wears(self):
        # All are right where all hats are alike, and somebody is wrong in every other row.
        for n in range(2, 9):
            self.check(n, table_of(n, lambda v, hats: hats[(v + 1) % n]), 2)


class AgainstEachGuess(PassingCase):
    def test_all_tables_of_two_persons(self):
        for table in itertools.product((0, 1, 2), repeat=4):
            self.assertEqual(passing(2, list(table)), expected_passing(2, table))

    def test_mixed_tables(self):
        for n in range(1, 9):
            for salt in range(4):
                for guesses in ((0, 1, 2), (0, 1), (0, 2, 1, 2, 2), (2, 2, 1, 2, 2, 2, 0)):
                    table = mixed_table(n, guesses, salt)
                    self.assertEqual(passing(n, table), expected_passing(n, table))

    def test_tables_with_one_entry_other_than_by_numbers(self):
        for n in (3, 4, 5):
            table = table_of(n, by_numbers)
            for place, guess in itertools.product(range(len(table)), (0, 1, 2)):
                other = table[:place] + [guess] + table[place + 1:]
                self.assertEqual(passing(n, other), expected_passing(n, other))


class Edges(PassingCase):
    def test_one_person(self):
        self.check(1, [0], 1)
        self.check(1, [1], 1)
        self.check(1, [2], 0)

    def test_two_persons(self):
        # One guesses always, whatever they see, or by it: half of the rows is the most.
        self.check(2, [0, 0, 2, 2], 2)
        self.check(2, [0, 1, 2, 2], 2)
        self.check(2, [2, 2, 1, 0], 2)

    def test_six_of_eight_rows(self):
        # Who sees two hats alike says the other colour, else they pass.
        self.check(3, [1, 2, 2, 0] * 3, 6)

    def test_passes_alone(self):
        for n in range(1, 9):
            self.check(n, [2] * (n << (n - 1)), 0)

    def test_no_passes(self):
        for n in range(1, 9):
            for guess in (0, 1):
                self.check(n, [guess] * (n << (n - 1)), 1)

    def test_one_guesses_always_and_the_others_pass(self):
        for n in range(1, 9):
            for v in range(n):
                self.check(n, table_of(n, lambda w, hats: 1 if w == v else PASS), 1 << (n - 1))

    def test_seven_and_eight_persons_by_numbers(self):
        self.check(3, table_of(3, by_numbers), 6)
        self.check(7, table_of(7, by_numbers), 112)
        # Person 7 passes, and the others don't look at them.
        without_7 = table_of(8, lambda v, hats: PASS if v == 7 else by_numbers(v, {**hats, 7: 0}))
        self.check(8, without_7, 224)

    def test_the_longest_table_is_soon_answered(self):
        table = mixed_table(8, (0, 1, 2), 5)
        self.assertEqual(len(table), 1024)
        start = time.process_time()
        passing(8, table)
        self.assertLess(time.process_time() - start, 3)


class OutOfRange(PassingCase):
    def test_n(self):
        for n in (0, 9, -1, 10, 256, LOWEST, HIGHEST):
            self.check_refused(-2, n, [])


class NoGuess(PassingCase):
    def test_in_every_place(self):
        for n in range(1, 9):
            length = n << (n - 1)
            for place, guess in itertools.product(range(length), (3, 255)):
                table = [PASS] * length
                table[place] = guess
                self.check_refused(-3, n, table)

    def test_in_all_places(self):
        for n in range(1, 9):
            for guess in (3, 4, 128, 255):
                self.check_refused(-3, n, [guess] * (n << (n - 1)))

    def test_beside_guesses_that_win(self):
        self.check_refused(-3, 3, [1, 2, 2, 0] * 2 + [1, 2, 2, 3])
        self.check_refused(-3, 3, [1, 3, 2, 0] + [1, 2, 2, 0] * 2)


class HowItIsCalled(unittest.TestCase):
    def test_names_of_the_arguments(self):
        self.assertEqual(str(inspect.signature(passing)), "(n, table)")

    def test_answers_are_lists_of_one_whole_number(self):
        for n, table in ((1, [0]), (1, [2]), (3, [1, 2, 2, 0] * 3), (0, []), (1, [3])):
            answer = passing(n, table)
            self.assertEqual([type(answer)] + [type(number) for number in answer], [list, int])

    def test_what_is_handed_in_stays_and_a_second_call_answers_the_same(self):
        calls = ((3, [1, 2, 2, 0] * 3), (1, [2]), (2, [0, 1, 3, 2]), (9, []), (8, mixed_table(8, (0, 2, 1), 1)))
        for n, table in calls:
            before = list(table)
            first = passing(n, table)
            kept = list(first)
            first.append(99)
            passing(1, [1])
            self.assertEqual(passing(n, table), kept)
            self.assertEqual(table, before)


if __name__ == "__main__":
    unittest.main()
