"""Tests of boxes: promise 6, and its refusals."""

import inspect
import itertools
import time
import unittest

from hatboxes.games import boxes

LOWEST, HIGHEST = -2147483648, 2147483647


def all_find(n, k, p):
    """Whether all find their numbers, looked at person by person and box by box."""
    for number in range(n):
        box = number
        found = False
        for step in range(k):
            found = found or p[box] == number
            box = p[box]
        if not found:
            return False
    return True


def order_of(*rounds):
    """The order in which each round's boxes lead from one to the next, and the last to the first."""
    order = [0] * sum(len(boxes_of_round) for boxes_of_round in rounds)
    for boxes_of_round in rounds:
        for box, following in zip(boxes_of_round, list(boxes_of_round[1:]) + [boxes_of_round[0]]):
            order[box] = following
    return order


def own_boxes(n):
    return list(range(n))


def one_round(n, step=1):
    """One round through all n boxes, if step has no part in common with n."""
    return [(box + step) % n for box in range(n)]


class OrderCase(unittest.TestCase):
    def check(self, n, k, p, answer):
        with self.subTest(n=n, k=k, first_boxes=p[:8]):
            self.assertEqual(boxes(n, k, p), [answer])

    def check_refused(self, refusal, n, k, p):
        with self.subTest(n=n, k=k, first_boxes=p[:8]):
            self.assertEqual(boxes(n, k, p), [refusal])


class OrdinaryInputs(OrderCase):
    def test_longest_round_shorter_as_long_and_longer(self):
        three_and_two = order_of((0, 2, 4), (1, 3))
        self.check(5, 4, three_and_two, 1)
        self.check(5, 3, three_and_two, 1)
        self.check(5, 2, three_and_two, 0)

    def test_longest_round_of_each_length(self):
        for longest in range(1, 8):
            for start in range(8 - longest):
                inside = tuple(range(start, start + longest))
                p = order_of(inside, *[(box,) for box in range(8) if box not in inside])
                for k in range(9):
                    self.check(8, k, p, 1 if longest <= k else 0)

    def test_several_rounds(self):
        # Wherever the longest round stands, it alone says whether all find theirs.
        for lengths in itertools.permutations((1, 2, 3, 4)):
            rounds, start = [], 0
            for length in lengths:
                rounds.append(range(start, start + length))
                start += length
            self.check(10, 5, order_of(*rounds), 1)
            self.check(10, 4, order_of(*rounds), 1)
            self.check(10, 3, order_of(*rounds), 0)

    def test_rounds_that_lead_to_and_fro(self):
        p = order_of((5, 0, 7, 2), (6, 1, 3), (4,))
        self.assertEqual(p, [7, 3, 5, 6, 4, 0, 1, 2])
        self.check(8, 3, p, 0)
        self.check(8, 4, p, 1)

    def test_half_of_all_boxes(self):
        self.check(6, 3, order_of((0, 5, 1), (2, 4, 3)), 1)
        self.check(6, 3, order_of((0, 5, 1, 4), (2, 3)), 0)
        self.check(100, 50, order_of(range(0, 100, 2), range(1, 100, 2)), 1)
        self.check(100, 50, order_of(range(51), range(51, 100)), 0)

    def test_it_goes_by_what_is_in_a_box_not_by_its_place(self):
        # Each number lies in the next box, but the one that leads there is opened last.
        self.check(4, 3, [3, 0, 1, 2], 0)
        self.check(4, 4, [3, 0, 1, 2], 1)
        # However far apart two boxes lie, each finds their number in the second that they open.
        self.check(6, 2, [5, 4, 3, 2, 1, 0], 1)
        self.check(6, 1, [5, 4, 3, 2, 1, 0], 0)


class AgainstBoxByBox(OrderCase):
    def test_every_order_of_few_boxes_with_each_k(self):
        for n in range(1, 6):
            for order in itertools.permutations(range(n)):
                for k in range(n + 1):
                    self.check(n, k, list(order), 1 if all_find(n, k, order) else 0)

    def test_some_orders_of_more_boxes(self):
        for n in (6, 7, 12, 31, 64):
            for salt in range(1, 9):
                p = sorted(range(n), key=lambda box: (box * box * 31 + box * salt * 17) % 61)
                for k in range(n + 1):
                    self.check(n, k, p, 1 if all_find(n, k, p) else 0)


class Edges(OrderCase):
    def test_one_box(self):
        self.check(1, 0, [0], 0)
        self.check(1, 1, [0], 1)

    def test_no_box_may_be_opened(self):
        for n in (1, 2, 5, 1024):
            self.check(n, 0, own_boxes(n), 0)
            self.check(n, 0, one_round(n), 0)

    def test_all_boxes_may_be_opened(self):
        for n in (1, 2, 5, 60, 1024):
            self.check(n, n, own_boxes(n), 1)
            self.check(n, n, one_round(n), 1)
            self.check(n, n, list(reversed(range(n))), 1)

    def test_each_number_in_its_own_box(self):
        for n in (2, 3, 100, 1024):
            self.check(n, 1, own_boxes(n), 1)

    def test_two_boxes(self):
        self.check(2, 1, [1, 0], 0)
        self.check(2, 2, [1, 0], 1)

    def test_one_round_through_1024_boxes(self):
        for step in (1, 1023, 5, 341):
            self.check(1024, 1023, one_round(1024, step), 0)
            self.check(1024, 1024, one_round(1024, step), 1)

    def test_one_round_through_all_but_one_of_1024_boxes(self):
        for alone in (0, 511, 1023):
            p = order_of([box for box in range(1024) if box != alone], [alone])
            self.check(1024, 1022, p, 0)
            self.check(1024, 1023, p, 1)

    def test_1024_boxes_are_soon_answered(self):
        start = time.process_time()
        for p in (own_boxes(1024), one_round(1024), one_round(1024, 5)):
            for k in (0, 1, 512, 1023, 1024):
                boxes(1024, k, p)
        self.assertLess(time.process_time() - start, 3)


class OutOfRange(OrderCase):
    def test_n(self):
        for n in (0, 1025, -1, 1026, 65536, LOWEST, HIGHEST):
            for k in (0, 1, n, LOWEST, HIGHEST):
                self.check_refused(-2, n, k, [])

    def test_k(self):
        for n in (1, 2, 5, 1024):
            for k in (-1, n + 1, -2, n + 2, LOWEST, HIGHEST):
                self.check_refused(-2, n, k, own_boxes(n))
                self.check_refused(-2, n, k, one_round(n))

    def test_it_comes_before_what_is_no_order(self):
        for n in (1, 2, 5, 1024):
            for k in (-1, n + 1, LOWEST, HIGHEST):
                self.check_refused(-2, n, k, [n] * n)
                self.check_refused(-2, n, k, [65535] * n)
                self.check_refused(-2, n, k, own_boxes(n)[:-1] + [n])


class NoOrder(OrderCase):
    def test_a_number_twice(self):
        for n in (2, 3, 5, 8):
            for place, other in itertools.permutations(range(n), 2):
                p = one_round(n)
                p[place] = p[other]
                for k in (0, 1, n):
                    self.check_refused(-3, n, k, p)

    def test_all_numbers_alike(self):
        for n in (2, 3, 1024):
            for number in (0, n - 1):
                self.check_refused(-3, n, n, [number] * n)

    def test_a_number_that_there_is_not(self):
        for n in (1, 2, 5, 1024):
            for number in (n, n + 1, 65535):
                for place in (0, n // 2, n - 1):
                    for p in (own_boxes(n), one_round(n)):
                        p[place] = number
                        for k in (0, 1, n):
                            self.check_refused(-3, n, k, p)

    def test_the_numbers_from_1_on(self):
        self.check_refused(-3, 1, 1, [1])
        self.check_refused(-3, 4, 4, [1, 2, 3, 4])

    def test_a_number_twice_among_1024(self):
        for place in (0, 511, 1022):
            p = own_boxes(1024)
            p[place] = 1023
            self.check_refused(-3, 1024, 1024, p)


class HowItIsCalled(unittest.TestCase):
    def test_names_of_the_arguments(self):
        self.assertEqual(str(inspect.signature(boxes)), "(n, k, p)")

    def test_answers_are_lists_of_one_whole_number(self):
        for n, k, p in ((1, 1, [0]), (1, 0, [0]), (3, 3, [1, 2, 0]), (0, 0, []), (1, 1, [1])):
            answer = boxes(n, k, p)
            self.assertEqual([type(answer)] + [type(number) for number in answer], [list, int])

    def test_what_is_handed_in_stays_and_a_second_call_answers_the_same(self):
        calls = (
            (1, 0, [0]),
            (5, 2, order_of((0, 2, 4), (1, 3))),
            (5, 3, order_of((0, 2, 4), (1, 3))),
            (3, 3, [0, 2, 2]),
            (3, 4, [2, 1, 0]),
            (0, 0, []),
            (1024, 1024, one_round(1024)),
        )
        for n, k, p in calls:
            before = list(p)
            first = boxes(n, k, p)
            self.assertEqual(boxes(n, k, p), first)
            kept = list(first)
            first.append(99)
            boxes(2, 1, [1, 0])
            self.assertEqual(boxes(n, k, p), kept)
            self.assertEqual(p, before)


if __name__ == "__main__":
    unittest.main()
