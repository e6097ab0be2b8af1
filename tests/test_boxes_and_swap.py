"""Tests of boxes and swap: promises 6 and 7, and the refusals of both."""

import inspect
import itertools
import time
import unittest

from hatboxes.games import boxes, swap

LOWEST, HIGHEST = -2147483648, 2147483647


def all_find(n, k, p):
    """Whether all find their numbers, looked at person by person and box by box."""
    for number in range(n):
        box = number
        found = False
        for step in range(k):
            found = found or p[box] == number
            box = p[box]
        if not found:
            return False
    return True


def exchanged(p, i, j):
    """The order once what is in boxes i and j is exchanged."""
    other = list(p)
    other[i], other[j] = p[j], p[i]
    return other


def expected_swap(n, k, p):
    """Each pair of boxes is tried in turn, and looked at box by box."""
    if all_find(n, k, p):
        return [0]
    # combinations go by the first of a pair, of these by the second.
    for i, j in itertools.combinations(range(n), 2):
        if all_find(n, k, exchanged(p, i, j)):
            return [1, i, j]
    return [-5]


def order_of(*rounds):
    """The order in which each round's boxes lead from one to the next, and the last to the first."""
    order = [0] * sum(len(boxes_of_round) for boxes_of_round in rounds)
    for boxes_of_round in rounds:
        for box, following in zip(boxes_of_round, list(boxes_of_round[1:]) + [boxes_of_round[0]]):
            order[box] = following
    return order


def own_boxes(n):
    return list(range(n))


def mixed_order(n, salt):
    """An order without a plain pattern, the same at every run."""
    return sorted(range(n), key=lambda box: (box * box * 31 + box * salt * 17) % 61)


def one_round(n, step=1):
    """One round through all n boxes, if step has no part in common with n."""
    return [(box + step) % n for box in range(n)]


class OrderCase(unittest.TestCase):
    def check(self, n, k, p, answer):
        with self.subTest(n=n, k=k, first_boxes=p[:8]):
            self.assertEqual(boxes(n, k, p), [answer])
            # swap answers 0 alone just where all find theirs.
            self.assertEqual(swap(n, k, p) == [0], answer == 1)

    def check_swap(self, n, k, p, answer):
        with self.subTest(n=n, k=k, first_boxes=p[:8]):
            self.assertEqual(swap(n, k, p), answer)
            if len(answer) == 3:
                self.assertTrue(all_find(n, k, exchanged(p, answer[1], answer[2])))

    def check_refused(self, refusal, n, k, p):
        with self.subTest(n=n, k=k, first_boxes=p[:8]):
            self.assertEqual(boxes(n, k, p), [refusal])
            self.assertEqual(swap(n, k, p), [refusal])


class OrdinaryInputs(OrderCase):
    def test_longest_round_shorter_as_long_and_longer(self):
        three_and_two = order_of((0, 2, 4), (1, 3))
        self.check(5, 4, three_and_two, 1)
        self.check(5, 3, three_and_two, 1)
        self.check(5, 2, three_and_two, 0)

    def test_longest_round_of_each_length(self):
        for longest in range(1, 8):
            for start in range(8 - longest):
                inside = tuple(range(start, start + longest))
                p = order_of(inside, *[(box,) for box in range(8) if box not in inside])
                for k in range(9):
                    self.check(8, k, p, 1 if longest <= k else 0)

    def test_several_rounds(self):
        # Wherever the longest round stands, it alone says whether all find theirs.
        for lengths in itertools.permutations((1, 2, 3, 4)):
            rounds, start = [], 0
            for length in lengths:
                rounds.append(range(start, start + length))
                start += length
            self.check(10, 5, order_of(*rounds), 1)
            self.check(10, 4, order_of(*rounds), 1)
            self.check(10, 3, order_of(*rounds), 0)

    def test_rounds_that_lead_to_and_fro(self):
        p = order_of((5, 0, 7, 2), (6, 1, 3), (4,))
        self.assertEqual(p, [7, 3, 5, 6, 4, 0, 1, 2])
        self.check(8, 3, p, 0)
        self.check(8, 4, p, 1)

    def test_half_of_all_boxes(self):
        self.check(6, 3, order_of((0, 5, 1), (2, 4, 3)), 1)
        self.check(6, 3, order_of((0, 5, 1, 4), (2, 3)), 0)
        self.check(100, 50, order_of(range(0, 100, 2), range(1, 100, 2)), 1)
        self.check(100, 50, order_of(range(51), range(51, 100)), 0)

    def test_it_goes_by_what_is_in_a_box_not_by_its_place(self):
        # Each number lies in the next box, but the one that leads there is opened last.
        self.check(4, 3, [3, 0, 1, 2], 0)
        self.check(4, 4, [3, 0, 1, 2], 1)
        # However far apart two boxes lie, each finds their number in the second that they open.
        self.check(6, 2, [5, 4, 3, 2, 1, 0], 1)
        self.check(6, 1, [5, 4, 3, 2, 1, 0], 0)


class AgainstBoxByBox(OrderCase):
    def test_every_order_of_few_boxes_with_each_k(self):
        for n in range(1, 6):
            for order in itertools.permutations(range(n)):
                for k in range(n + 1):
                    self.check(n, k, list(order), 1 if all_find(n, k, order) else 0)

    def test_some_orders_of_more_boxes(self):
        for n in (6, 7, 12, 31, 64):
            for salt in range(1, 9):
                p = mixed_order(n, salt)
                for k in range(n + 1):
                    self.check(n, k, p, 1 if all_find(n, k, p) else 0)


class Edges(OrderCase):
    def test_one_box(self):
        self.check(1, 0, [0], 0)
        self.check(1, 1, [0], 1)

    def test_no_box_may_be_opened(self):
        for n in (1, 2, 5, 1024):
            self.check(n, 0, own_boxes(n), 0)
            self.check(n, 0, one_round(n), 0)

    def test_all_boxes_may_be_opened(self):
        for n in (1, 2, 5, 60, 1024):
            self.check(n, n, own_boxes(n), 1)
            self.check(n, n, one_round(n), 1)
            self.check(n, n, list(reversed(range(n))), 1)

    def test_each_number_in_its_own_box(self):
        for n in (2, 3, 100, 1024):
            self.check(n, 1, own_boxes(n), 1)

    def test_two_boxes(self):
        self.check(2, 1, [1, 0], 0)
        self.check(2, 2, [1, 0], 1)

    def test_one_round_through_1024_boxes(self):
        for step in (1, 1023, 5, 341):
            self.check(1024, 1023, one_round(1024, step), 0)
            self.check(1024, 1024, one_round(1024, step), 1)

    def test_one_round_through_all_but_one_of_1024_boxes(self):
        for alone in (0, 511, 1023):
            p = order_of([box for box in range(1024) if box != alone], [alone])
            self.check(1024, 1022, p, 0)
            self.check(1024, 1023, p, 1)

    def test_1024_boxes_are_soon_answered(self):
        start = time.process_time()
        for p in (own_boxes(1024), one_round(1024), one_round(1024, 5)):
            for k in (0, 1, 512, 1023, 1024):
                boxes(1024, k, p)
        self.assertLess(time.process_time() - start, 3)


class OrdinaryExchanges(OrderCase):
    def test_all_find_theirs(self):
        self.check_swap(5, 3, order_of((0, 2, 4), (1, 3)), [0])
        self.check_swap(5, 4, order_of((0, 2, 4), (1, 3)), [0])
        self.check_swap(4, 1, own_boxes(4), [0])

    def test_a_round_is_cut_in_two(self):
        # Any cut leaves two boxes at the most: box 1 is the first to exchange with box 0.
        self.check_swap(3, 2, order_of((0, 1, 2)), [1, 0, 1])
        self.check_swap(3, 2, order_of((0, 2, 1)), [1, 0, 1])
        self.check_swap(5, 2, order_of((0, 2, 4), (1, 3)), [1, 0, 2])

    def test_both_parts_are_just_k_long(self):
        # The box that is opened two after box 0 is the only one.
        self.check_swap(4, 2, order_of((0, 1, 2, 3)), [1, 0, 2])
        self.check_swap(4, 2, order_of((0, 2, 1, 3)), [1, 0, 1])
        self.check_swap(4, 2, order_of((0, 1, 3, 2)), [1, 0, 3])
        self.check_swap(2, 1, [1, 0], [1, 0, 1])
        self.check_swap(8, 3, order_of((0, 7, 5, 3, 1, 6), (2,), (4,)), [1, 0, 3])

    def test_the_first_i_is_not_box_0(self):
        self.check_swap(3, 1, order_of((0,), (1, 2)), [1, 1, 2])
        self.check_swap(5, 2, order_of((0,), (1, 4, 2, 3)), [1, 1, 2])
        self.check_swap(6, 3, order_of((0, 1), (2, 3, 5, 4)), [1, 2, 3])
        self.check_swap(7, 2, order_of((0, 6), (1, 3), (2, 5, 4)), [1, 2, 4])
        self.check_swap(1024, 1, order_of(*[(box,) for box in range(1022)], (1022, 1023)), [1, 1022, 1023])

    def test_the_first_j_is_neither_the_next_box_nor_the_next_to_be_opened(self):
        # What is opened after box 0: 3, 1, 2, 4. Any of these will do, and 1 is the first.
        self.check_swap(5, 4, order_of((0, 3, 1, 2, 4)), [1, 0, 1])
        # Here it must be the second or third that is opened after box 0.
        self.check_swap(5, 3, order_of((0, 3, 4, 1, 2)), [1, 0, 1])
        self.check_swap(5, 3, order_of((0, 1, 3, 2, 4)), [1, 0, 2])
        self.check_swap(5, 3, order_of((0, 1, 4, 3, 2)), [1, 0, 3])
        # And here the third, fourth or fifth of seven.
        self.check_swap(8, 5, order_of((0, 1, 2, 7, 6, 5, 3, 4)), [1, 0, 5])
        self.check_swap(8, 5, order_of((0, 1, 2, 5, 6, 7, 3, 4)), [1, 0, 5])

    def test_one_too_long_beside_others_that_are_as_long_as_may_be(self):
        self.check_swap(9, 3, order_of((0, 4, 8), (1, 3, 2, 7), (5, 6)), [1, 1, 2])
        self.check_swap(9, 3, order_of((0, 4, 8), (1, 3, 2, 7, 5, 6)), [1, 1, 7])

    def test_a_round_longer_than_twice_k(self):
        self.check_swap(3, 1, order_of((0, 1, 2)), [-5])
        self.check_swap(5, 2, order_of((0, 2, 1, 4, 3)), [-5])
        self.check_swap(6, 2, order_of((0,), (1, 2, 3, 4, 5)), [-5])
        self.check_swap(8, 3, order_of((0, 3, 6, 1, 4, 7, 2), (5,)), [-5])

    def test_two_rounds_that_are_too_long(self):
        self.check_swap(4, 1, order_of((0, 1), (2, 3)), [-5])
        self.check_swap(6, 2, order_of((0, 2, 4), (1, 3, 5)), [-5])
        self.check_swap(7, 3, order_of((0, 1, 2, 3), (4, 5, 6)), [1, 0, 1])
        self.check_swap(8, 3, order_of((0, 1, 2, 3), (4, 5, 6, 7)), [-5])
        self.check_swap(9, 2, order_of((0, 1, 2), (3, 4, 5), (6, 7, 8)), [-5])

    def test_no_box_may_be_opened(self):
        for n in (1, 2, 3, 6):
            self.check_swap(n, 0, own_boxes(n), [-5])
            self.check_swap(n, 0, one_round(n), [-5])


class AgainstEachPair(OrderCase):
    def test_every_order_of_few_boxes_with_each_k(self):
        for n in range(1, 6):
            for order in itertools.permutations(range(n)):
                for k in range(n + 1):
                    self.check_swap(n, k, list(order), expected_swap(n, k, order))

    def test_some_orders_of_more_boxes(self):
        for n in (6, 7, 8, 11):
            for salt in range(1, 13):
                mixed = mixed_order(n, salt)
                cut = [order_of(mixed[:length], mixed[length:]) for length in (1, n // 2, n - 1)]
                for p in [mixed, order_of(mixed)] + cut:
                    for k in range(n + 1):
                        self.check_swap(n, k, p, expected_swap(n, k, p))


class EdgesOfExchanges(OrderCase):
    def test_one_box(self):
        self.check_swap(1, 0, [0], [-5])
        self.check_swap(1, 1, [0], [0])

    def test_two_boxes(self):
        self.check_swap(2, 0, [0, 1], [-5])
        self.check_swap(2, 1, [0, 1], [0])
        self.check_swap(2, 2, [0, 1], [0])
        self.check_swap(2, 0, [1, 0], [-5])
        self.check_swap(2, 1, [1, 0], [1, 0, 1])
        self.check_swap(2, 2, [1, 0], [0])

    def test_one_round_through_1024_boxes(self):
        for step in (1, 1023, 5, 341):
            self.check_swap(1024, 511, one_round(1024, step), [-5])
            # 512 boxes on is the same box, whichever way they lead.
            self.check_swap(1024, 512, one_round(1024, step), [1, 0, 512])
            self.check_swap(1024, 1023, one_round(1024, step), [1, 0, 1])
            self.check_swap(1024, 1024, one_round(1024, step), [0])

    def test_one_round_through_1024_boxes_and_few_that_will_do(self):
        # From 511 to 513 boxes on: these are 511, 512 and 513, or 507, 512 and 517.
        self.check_swap(1024, 513, one_round(1024), [1, 0, 511])
        self.check_swap(1024, 513, one_round(1024, 1023), [1, 0, 511])
        self.check_swap(1024, 513, one_round(1024, 5), [1, 0, 507])
        # All but the next and the last one: box 1 is the next or the last, or neither.
        self.check_swap(1024, 1022, one_round(1024), [1, 0, 2])
        self.check_swap(1024, 1022, one_round(1024, 1023), [1, 0, 2])
        self.check_swap(1024, 1022, one_round(1024, 5), [1, 0, 1])

    def test_1024_boxes_with_two_such_boxes(self):
        alone = order_of([box for box in range(1024) if box != 0], [0])
        self.check_swap(1024, 512, alone, [1, 1, 512])
        self.check_swap(1024, 1022, alone, [1, 1, 2])
        halves = order_of(range(0, 513), range(513, 1024))
        self.check_swap(1024, 512, halves, [1, 0, 1])
        self.check_swap(1024, 511, order_of(range(0, 511), range(511, 1024)), [1, 511, 513])
        last = order_of(*[(box,) for box in range(1021)], (1021, 1023, 1022))
        self.check_swap(1024, 2, last, [1, 1021, 1022])

    def test_1024_boxes_without_two_such_boxes(self):
        evens_and_odds = order_of(range(0, 1024, 2), range(1, 1024, 2))
        self.check_swap(1024, 512, evens_and_odds, [0])
        self.check_swap(1024, 511, evens_and_odds, [-5])
        self.check_swap(1024, 511, order_of(range(1023), [1023]), [-5])
        self.check_swap(1024, 1, list(reversed(range(1024))), [-5])
        self.check_swap(1024, 0, own_boxes(1024), [-5])
        self.check_swap(1024, 0, one_round(1024), [-5])

    def test_1024_boxes_are_soon_exchanged(self):
        start = time.process_time()
        for p in (own_boxes(1024), one_round(1024), one_round(1024, 5), list(reversed(range(1024)))):
            for k in (0, 1, 511, 512, 1023):
                swap(1024, k, p)
        self.assertLess(time.process_time() - start, 3)


class OutOfRange(OrderCase):
    def test_n(self):
        for n in (0, 1025, -1, 1026, 65536, LOWEST, HIGHEST):
            for k in (0, 1, n, LOWEST, HIGHEST):
                self.check_refused(-2, n, k, [])

    def test_k(self):
        for n in (1, 2, 5, 1024):
            for k in (-1, n + 1, -2, n + 2, LOWEST, HIGHEST):
                self.check_refused(-2, n, k, own_boxes(n))
                self.check_refused(-2, n, k, one_round(n))

    def test_it_comes_before_what_is_no_order(self):
        for n in (1, 2, 5, 1024):
            for k in (-1, n + 1, LOWEST, HIGHEST):
                self.check_refused(-2, n, k, [n] * n)
                self.check_refused(-2, n, k, [65535] * n)
                self.check_refused(-2, n, k, own_boxes(n)[:-1] + [n])


class NoOrder(OrderCase):
    def test_a_number_twice(self):
        for n in (2, 3, 5, 8):
            for place, other in itertools.permutations(range(n), 2):
                p = one_round(n)
                p[place] = p[other]
                for k in (0, 1, n):
                    self.check_refused(-3, n, k, p)

    def test_all_numbers_alike(self):
        for n in (2, 3, 1024):
            for number in (0, n - 1):
                self.check_refused(-3, n, n, [number] * n)

    def test_a_number_that_there_is_not(self):
        for n in (1, 2, 5, 1024):
            for number in (n, n + 1, 65535):
                for place in (0, n // 2, n - 1):
                    for p in (own_boxes(n), one_round(n)):
                        p[place] = number
                        for k in (0, 1, n):
                            self.check_refused(-3, n, k, p)

    def test_the_numbers_from_1_on(self):
        self.check_refused(-3, 1, 1, [1])
        self.check_refused(-3, 4, 4, [1, 2, 3, 4])

    def test_a_number_twice_among_1024(self):
        for place in (0, 511, 1022):
            p = own_boxes(1024)
            p[place] = 1023
            self.check_refused(-3, 1024, 1024, p)


class HowTheyAreCalled(unittest.TestCase):
    CALLS = (
        (1, 0, [0]),
        (5, 2, order_of((0, 2, 4), (1, 3))),
        (5, 3, order_of((0, 2, 4), (1, 3))),
        (6, 2, order_of((0, 2, 4), (1, 3, 5))),
        (3, 3, [0, 2, 2]),
        (1, 1, [1]),
        (3, 4, [2, 1, 0]),
        (0, 0, []),
        (1024, 1024, one_round(1024)),
        (1024, 600, one_round(1024)),
    )

    def test_names_of_the_arguments(self):
        for call in (boxes, swap):
            self.assertEqual(str(inspect.signature(call)), "(n, k, p)")

    def test_answers_are_lists_of_whole_numbers(self):
        for n, k, p in self.CALLS:
            self.assertEqual([type(number) for number in boxes(n, k, p)], [int])
            answer = swap(n, k, p)
            self.assertEqual([type(answer)] + [type(number) for number in answer], [list] + [int] * len(answer))
            self.assertEqual(len(answer), 3 if answer[0] == 1 else 1)

    def test_what_is_handed_in_stays_and_a_second_call_answers_the_same(self):
        for call in (boxes, swap):
            for n, k, p in self.CALLS:
                before = list(p)
                first = call(n, k, p)
                self.assertEqual(call(n, k, p), first)
                kept = list(first)
                # A caller may do with the answer what they like.
                first.append(99)
                boxes(2, 1, [1, 0])
                swap(4, 3, [3, 0, 1, 2])
                self.assertEqual(call(n, k, p), kept)
                self.assertEqual(p, before)


if __name__ == "__main__":
    unittest.main()
