"""Tests of misses and least: promises 1 and 2, and the refusals of both."""

import inspect
import itertools
import unittest

from hatboxes.games import least, misses

LOWEST = -2147483648
HIGHEST = 2147483647


def everyone_sees_all(n):
    return [(1 << n) - 1 - (1 << v) for v in range(n)]


def parts_length(n, q, g):
    return sum(q ** bin(seen).count("1") for seen in g)


def table_of(n, q, g, guess):
    """The table in which person v guesses guess(v, {person seen: hat})."""
    table = []
    for v in range(n):
        seen = [u for u in range(n) if g[v] >> u & 1]
        # product's last place turns fastest, and the lowest person is to.
        for digits in itertools.product(range(q), repeat=len(seen)):
            table.append(guess(v, dict(zip(seen, reversed(digits)))))
    return table


def right_by_row(n, q, g, table):
    """Told the other way round: each person's part as a dict from hats seen to a guess."""
    parts = []
    rest = list(table)
    for v in range(n):
        seen = [u for u in range(n) if g[v] >> u & 1]
        part = {}
        for digits in itertools.product(range(q), repeat=len(seen)):
            part[digits[::-1]] = rest.pop(0)
        parts.append((seen, part))
    return {
        hats: sum(part[tuple(hats[u] for u in seen)] == hats[v] for v, (seen, part) in enumerate(parts))
        for hats in itertools.product(range(q), repeat=n)
    }


def expected_misses(n, q, g, table):
    missed = [hats for hats, right in right_by_row(n, q, g, table).items() if right == 0]
    return [len(missed)] + (list(min(missed)) if missed else [])


def expected_least(n, q, g, table):
    return [min(right_by_row(n, q, g, table).values())]


def mixed_table(length, q, salt):
    """Guesses without a plain pattern, the same at every run."""
    table = []
    state = salt * 7919 + 1
    for step in range(length):
        state = (state * 1103515245 + 12345) % (1 << 31)
        table.append((state >> 16) % q)
    return table


class Case(unittest.TestCase):
    def check(self, n, q, g, table, missed, at_least):
        self.assertEqual(misses(n, q, len(table), g, table), missed)
        self.assertEqual(least(n, q, len(table), g, table), at_least)

    def check_refused(self, refusal, n, q, length, g, table):
        with self.subTest(n=n, q=q, length=length, g=g):
            self.assertEqual(misses(n, q, length, g, table), [refusal])
            self.assertEqual(least(n, q, length, g, table), [refusal])


class OrdinaryInputs(Case):
    def test_one_says_alike_and_one_says_unlike(self):
        self.check(2, 2, [2, 1], [0, 1, 1, 0], [0], [1])

    def test_both_say_alike(self):
        self.check(2, 2, [2, 1], [0, 1, 0, 1], [2, 0, 1], [0])
        self.check(2, 3, [2, 1], [0, 1, 2, 0, 1, 2], [6, 0, 1], [0])

    def test_both_say_unlike(self):
        # Nobody is right at the first and at the last row, both are at the others.
        self.check(2, 2, [2, 1], [1, 0, 1, 0], [2, 0, 0], [0])

    def test_first_row_is_the_first_by_the_hat_of_person_0(self):
        # 0 and 2 say each other's hat, 1 says 1: missed are (0, 0, 1) and (1, 0, 0).
        self.check(3, 2, [4, 0, 1], [0, 1, 1, 0, 1], [2, 0, 0, 1], [0])

    def test_first_row_is_by_the_hat_of_person_1_where_those_of_person_0_are_alike(self):
        # 0 says 0, 1 and 2 say each other's hat: missed are (1, 0, 1) and (1, 1, 0).
        self.check(3, 2, [0, 4, 2], [0, 0, 1, 0, 1], [2, 1, 0, 1], [0])

    def test_parts_of_different_lengths(self):
        # 0 sees 1; 1 sees 0 and 2; 2 sees 1; 3 sees nobody: parts of 3, 9, 3 and 1.
        g = [2, 5, 2, 0]
        table = [0, 1, 2] + [0, 1, 2, 0, 1, 2, 0, 1, 2] + [2, 0, 1] + [1]
        # 0 and 1 say each other's hat, 2 says what 1 wears less 1, 3 says 1. So 6 ways are
        # missed by 0 and 1, with each 2 by person 2, with each 2 by person 3.
        self.check(4, 3, g, table, [24, 0, 1, 1, 0], [0])

    def test_parts_of_different_lengths_with_no_row_missed(self):
        # 1 sees 0 and 2, and says unlike 0, who says alike; 2 says whatever.
        self.check(3, 2, [2, 5, 2], [0, 1] + [1, 0, 1, 0] + [1, 1], [0], [1])
        # 0 says what 3 wears, 3 says unlike 0; 1 and 2 are both wrong at times.
        self.check(4, 2, [8, 4, 10, 5], [0, 1] + [0, 1] + [0, 0, 1, 1] + [1, 0, 1, 0], [0], [1])

    def test_entry_is_read_with_the_lowest_person_as_the_lowest_digit(self):
        g = [4, 4, 3]
        # 0 says 0, 1 says 1, 2 says what 0 wears.
        self.check(3, 3, g, [0, 0, 0] + [1, 1, 1] + [0, 1, 2] * 3, [8, 1, 0, 0], [0])
        # 0 says what 2 wears, 1 says 0, 2 says what 1 wears.
        self.check(3, 3, g, [0, 1, 2] + [0, 0, 0] + [0, 0, 0, 1, 1, 1, 2, 2, 2], [8, 0, 1, 2], [0])

    def test_each_entry_of_who_sees_three(self):
        # Person 1 sees 0, 2 and 3. Each of those says what they don't wear in the one row that
        # is asked for, and person 1 says 1 there, but 0 anywhere else: missed is hat 0 of theirs.
        g = [2, 13, 2, 2]
        for entry in range(8):
            hat_0, hat_2, hat_3 = entry % 2, entry // 2 % 2, entry // 4
            part = [0] * 8
            part[entry] = 1
            table = [1 - hat_0] * 2 + part + [1 - hat_2] * 2 + [1 - hat_3] * 2
            self.check(4, 2, g, table, [1, hat_0, 0, hat_2, hat_3], [0])

    def test_least_above_1(self):
        # Each pair makes sure of one.
        self.check(4, 2, [2, 1, 8, 4], [0, 1, 1, 0] * 2, [0], [2])
        self.check(6, 2, [2, 1, 8, 4, 32, 16], [0, 1, 1, 0] * 3, [0], [3])

    def test_least_wherever_its_row_stands(self):
        # The one row that is missed is the last, the first, or one between.
        self.check(2, 2, [0, 0], [0, 0], [1, 1, 1], [0])
        self.check(2, 2, [0, 0], [1, 1], [1, 0, 0], [0])
        self.check(2, 2, [0, 0], [0, 1], [1, 1, 0], [0])


class AgainstEveryRow(Case):
    def test_all_sights_and_all_tables_of_two_persons(self):
        for q in (1, 2, 3):
            for g in ([0, 0], [2, 1]):
                for table in itertools.product(range(q), repeat=parts_length(2, q, g)):
                    table = list(table)
                    self.check(2, q, g, table, expected_misses(2, q, g, table), expected_least(2, q, g, table))

    def test_all_sights_up_to_four_persons(self):
        for n in (1, 2, 3, 4):
            pairs = list(itertools.combinations(range(n), 2))
            for chosen in itertools.product((0, 1), repeat=len(pairs)):
                g = [0] * n
                for (u, v), there in zip(pairs, chosen):
                    g[u] |= there << v
                    g[v] |= there << u
                for q in (1, 2, 3, 4) if n < 4 else (2, 3):
                    table = mixed_table(parts_length(n, q, g), q, sum(g) + q)
                    self.check(n, q, g, table, expected_misses(n, q, g, table), expected_least(n, q, g, table))

    def test_some_sights_of_five_and_six_persons(self):
        for n, g in (
            (5, [2, 5, 10, 20, 8]),
            (5, everyone_sees_all(5)),
            (6, [32, 16, 8, 4, 2, 1]),
            (6, [62, 1, 1, 1, 1, 1]),
            (6, [34, 5, 10, 20, 40, 17]),
        ):
            for q in (2, 3):
                table = mixed_table(parts_length(n, q, g), q, n + q)
                self.check(n, q, g, table, expected_misses(n, q, g, table), expected_least(n, q, g, table))


class Edges(Case):
    def test_one_person(self):
        self.check(1, 1, [0], [0], [0], [1])
        self.check(1, 2, [0], [0], [1, 1], [0])
        self.check(1, 2, [0], [1], [1, 0], [0])
        self.check(1, 4, [0], [0], [3, 1], [0])
        self.check(1, 4, [0], [3], [3, 0], [0])

    def test_one_colour(self):
        for n in range(1, 7):
            self.check(n, 1, [0] * n, [0] * n, [0], [n])
            self.check(n, 1, everyone_sees_all(n), [0] * n, [0], [n])

    def test_six_persons_of_whom_nobody_sees_anybody(self):
        self.check(6, 4, [0] * 6, [0, 1, 2, 3, 0, 1], [729, 1, 0, 0, 0, 1, 0], [0])
        self.check(6, 2, [0] * 6, [0, 1, 0, 0, 1, 1], [1, 1, 0, 1, 1, 0, 0], [0])

    def test_six_persons_and_four_colours_of_whom_all_see_all(self):
        g = everyone_sees_all(6)
        # Person v says what would make all hats together leave v by 4.
        table = table_of(6, 4, g, lambda v, hats: (v - sum(hats.values())) % 4)
        self.assertEqual(len(table), 6144)
        self.check(6, 4, g, table, [0], [1])
        table = table_of(6, 4, g, lambda v, hats: -sum(hats.values()) % 4)
        self.check(6, 4, g, table, [3072, 0, 0, 0, 0, 0, 1], [0])
        # Four of the six cover each remainder, but 0 and 1 are covered by two.
        table = table_of(6, 4, g, lambda v, hats: (min(v, 2) - sum(hats.values())) % 4)
        self.check(6, 4, g, table, [1024, 0, 0, 0, 0, 0, 3], [0])

    def test_all_see_all_and_each_remainder_is_somebodys(self):
        for n, q, at_least in ((2, 2, 1), (3, 3, 1), (4, 4, 1), (4, 2, 2), (6, 3, 2), (6, 2, 3), (5, 2, 2)):
            g = everyone_sees_all(n)
            table = table_of(n, q, g, lambda v, hats: (v - sum(hats.values())) % q)
            self.check(n, q, g, table, [0], [at_least])

    def test_lengths_at_the_ends_of_their_range_are_not_out_of_it(self):
        self.check_refused(-3, 1, 1, 0, [0], [])
        self.check_refused(-3, 6, 4, 0, everyone_sees_all(6), [])
        self.check_refused(-3, 1, 1, 8192, [0], [0] * 8192)
        self.check_refused(-3, 6, 4, 8192, everyone_sees_all(6), [0] * 8192)


class OutOfRange(Case):
    def test_n(self):
        for n in (0, 7, -1, 8, 256, LOWEST, HIGHEST):
            self.check_refused(-2, n, 2, 4, [], [])
            self.check_refused(-2, n, 2, 0, [], [])

    def test_q(self):
        for q in (0, 5, -1, 6, 256, LOWEST, HIGHEST):
            self.check_refused(-2, 2, q, 4, [2, 1], [0, 1, 1, 0])
            self.check_refused(-2, 1, q, 1, [0], [0])
        self.check_refused(-2, 2, 5, 10, [2, 1], [0] * 10)

    def test_length(self):
        for length in (-1, 8193, -2, 8194, LOWEST, HIGHEST):
            self.check_refused(-2, 2, 2, length, [], [])

    def test_all_at_once(self):
        for far in (LOWEST, HIGHEST):
            self.check_refused(-2, far, far, far, [], [])

    def test_it_comes_before_what_is_not_as_told(self):
        for q in (0, 5, LOWEST, HIGHEST):
            # A bit for oneself, one from n on, one that isn't seen back.
            for g in ([3, 1], [6, 1], [2, 0]):
                self.check_refused(-2, 2, q, 4, g, [0, 1, 1, 0])
            # Tables of a wrong length, and with guesses that are no colour.
            self.check_refused(-2, 2, q, 3, [2, 1], [0, 1, 1])
            self.check_refused(-2, 2, q, 4, [2, 1], [255, 255, 255, 255])


class NotAsTold(Case):
    def check_sight_refused(self, n, q, g):
        """Refused for g alone: whatever length fits it, by any way of counting whom they see."""
        below = (1 << n) - 1
        counted = (
            g,
            [seen & below for seen in g],
            [seen & below & ~(1 << v) for v, seen in enumerate(g)],
        )
        for counts in counted:
            length = parts_length(n, q, counts)
            self.check_refused(-3, n, q, length, g, [0] * length)

    def test_somebody_sees_themselves(self):
        self.check_sight_refused(1, 2, [1])
        for v in range(6):
            g = [0] * 6
            g[v] = 1 << v
            self.check_sight_refused(6, 2, g)
            g = everyone_sees_all(6)
            g[v] = 63
            self.check_sight_refused(6, 2, g)

    def test_a_bit_from_n_on(self):
        for n in range(1, 7):
            for bit in range(n, 8):
                for v in range(n):
                    g = [0] * n
                    g[v] = 1 << bit
                    self.check_sight_refused(n, 2, g)
                    g = everyone_sees_all(n)
                    g[v] += 1 << bit
                    self.check_sight_refused(n, 2, g)

    def test_who_is_seen_does_not_see_back(self):
        for n in range(2, 7):
            for v, u in itertools.permutations(range(n), 2):
                g = [0] * n
                g[v] = 1 << u
                self.check_sight_refused(n, 2, g)
                g = everyone_sees_all(n)
                g[v] -= 1 << u
                self.check_sight_refused(n, 2, g)

    def test_seen_in_a_ring_one_way(self):
        self.check_sight_refused(3, 2, [2, 4, 1])

    def test_length_of_the_table(self):
        for n, q, g in (
            (1, 1, [0]),
            (1, 4, [0]),
            (2, 2, [2, 1]),
            (3, 3, [2, 5, 2]),
            (6, 4, [0] * 6),
            (6, 4, everyone_sees_all(6)),
        ):
            whole = parts_length(n, q, g)
            for length in (0, whole - 1, whole + 1, 2 * whole + 1, 8192):
                if 0 <= length <= 8192 and length != whole:
                    self.check_refused(-3, n, q, length, g, [0] * length)

    def test_length_where_nobody_sees_is_not_that_where_all_see(self):
        self.check_refused(-3, 2, 2, 2, [2, 1], [0, 0])
        self.check_refused(-3, 2, 2, 4, [0, 0], [0, 1, 1, 0])

    def test_a_guess_that_is_no_colour(self):
        for q in (1, 2, 3, 4):
            g = [2, 5, 2]
            length = parts_length(3, q, g)
            for place in range(length):
                for guess in (q, q + 1, 255):
                    table = [0] * length
                    table[place] = guess
                    self.check_refused(-3, 3, q, length, g, table)
            self.check_refused(-3, 3, q, length, g, [255] * length)

    def test_the_highest_colour_may_be_guessed(self):
        self.check(2, 4, [0, 0], [3, 3], [9, 0, 0], [0])
        self.check(2, 3, [0, 0], [2, 2], [4, 0, 0], [0])


class HowTheyAreCalled(Case):
    def test_names_of_the_arguments(self):
        for call in (misses, least):
            self.assertEqual(list(inspect.signature(call).parameters), ["n", "q", "length", "g", "table"])

    def test_answers_are_lists_of_whole_numbers(self):
        for n, q, g, table in ((2, 2, [2, 1], [0, 1, 0, 1]), (2, 2, [2, 1], [0, 1, 1, 0]), (2, 5, [2, 1], [0] * 4)):
            for call in (misses, least):
                answer = call(n, q, len(table), g, table)
                self.assertIs(type(answer), list)
                self.assertEqual([type(number) for number in answer], [int] * len(answer))

    def test_what_is_handed_in_stays_and_a_second_call_answers_the_same(self):
        for n, q, g, table in (
            (2, 2, [2, 1], [0, 1, 0, 1]),
            (3, 3, [2, 5, 2], mixed_table(15, 3, 4)),
            (3, 3, [2, 4, 1], [0] * 9),
            (3, 3, [2, 5, 2], [3] * 15),
            (3, 5, [2, 5, 2], [0] * 15),
            (2, 2, [2, 1], [0, 1, 1]),
        ):
            for call in (misses, least):
                g_before, table_before = list(g), list(table)
                first = call(n, q, len(table), g, table)
                kept = list(first)
                # A caller may do with the answer what they like.
                first.append(99)
                call(1, 4, 1, [0], [2])
                self.assertEqual(call(n, q, len(table), g, table), kept)
                self.assertEqual((g, table), (g_before, table_before))


if __name__ == "__main__":
    unittest.main()
