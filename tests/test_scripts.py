"""Points 38 to 40, and the interface of fleuron/scripts.py."""

import itertools
import random
import unittest

from fleuron.errors import FleuronError, InvalidTable
from fleuron.scripts import arranged, forms

JOINS = [(1, "both"), (2, "back"), (3, "through")]


def joined_by_definition(codes, joins):
    """Return the pairs of places of characters that are joined, word for word as point 38 tells it."""
    kinds = dict(joins)
    return [
        (i, k) for i in range(len(codes)) for k in range(i + 1, len(codes))
        if kinds.get(codes[i]) == "both" and kinds.get(codes[k]) in ("both", "back")
        and all(kinds.get(code) == "through" for code in codes[i + 1:k])
    ]


def forms_by_definition(codes, joins):
    """Return the forms of the characters, from the pairs of those that are joined."""
    kinds, pairs = dict(joins), joined_by_definition(codes, joins)
    found = []
    for at, code in enumerate(codes):
        later = any(pair[0] == at for pair in pairs)
        earlier = any(pair[1] == at for pair in pairs)
        if kinds.get(code) not in ("both", "back"):
            found.append(0)
        else:
            found.append({(False, False): 1, (True, False): 2, (True, True): 3, (False, True): 4}[(later, earlier)])
    return found


class ExamplesTest(unittest.TestCase):
    def test_the_examples_of_the_interface(self):
        self.assertEqual(forms([1, 9, 1, 2, 5], [(1, "both"), (2, "back"), (9, "through")]), [2, 0, 3, 4, 0])
        self.assertEqual(arranged([7, 31, 30, 7], [(30, 1), (31, 4)]), [(7, 0), (30, 0), (31, 0), (7, 3)])


class FormsTest(unittest.TestCase):
    def test_some_texts(self):
        cases = {
            (): [],
            (1,): [1],
            (2,): [1],
            (3,): [0],
            (9,): [0],
            (1, 1): [2, 4],
            (1, 1, 1): [2, 3, 4],
            (1, 2): [2, 4],
            (2, 1): [1, 1],
            (2, 2): [1, 1],
            (1, 2, 1): [2, 4, 1],
            (1, 9, 1): [1, 0, 1],
            (3, 1): [0, 1],
            (1, 3): [1, 0],
        }
        for codes, expected in cases.items():
            self.assertEqual(forms(list(codes), JOINS), expected)

    def test_characters_that_join_through_others(self):
        cases = {
            (1, 3, 1): [2, 0, 4],
            (1, 3, 3, 3, 2): [2, 0, 0, 0, 4],
            (1, 3, 9, 3, 1): [1, 0, 0, 0, 1],
            (3, 1, 3, 1, 3): [0, 2, 0, 4, 0],
            (1, 3, 1, 3, 1): [2, 0, 3, 0, 4],
            (2, 3, 1): [1, 0, 1],
            (1, 3, 2, 3, 1): [2, 0, 4, 0, 1],
        }
        for codes, expected in cases.items():
            self.assertEqual(forms(list(codes), JOINS), expected)

    def test_without_joins(self):
        self.assertEqual(forms([1, 2, 3], []), [0, 0, 0])
        self.assertEqual(forms([1, 2, 3], ()), [0, 0, 0])

    def test_all_texts_by_the_definition(self):
        for length in range(6):
            for codes in itertools.product((1, 2, 3, 9), repeat=length):
                self.assertEqual(forms(list(codes), JOINS), forms_by_definition(codes, JOINS))

    def test_several_codes_of_a_kind(self):
        joins = [(5, "both"), (6, "through"), (4, "both"), (7, "back"), (8, "through")]
        self.assertEqual(forms([4, 8, 6, 5, 7, 4], joins), [2, 0, 0, 3, 4, 1])


class ArrangedTest(unittest.TestCase):
    ORDERS = [(30, 1), (31, 4), (32, 4), (33, 254)]

    def test_some_texts(self):
        cases = {
            (): [],
            (7,): [(7, 0)],
            (7, 8): [(7, 0), (8, 1)],
            (7, 30, 8, 31): [(7, 0), (30, 0), (8, 2), (31, 2)],
            (7, 33, 31, 30): [(7, 0), (30, 0), (31, 0), (33, 0)],
            (7, 8, 33, 30, 9): [(7, 0), (8, 1), (30, 1), (33, 1), (9, 4)],
            # Equal orders stay in their order.
            (7, 32, 31, 30, 31): [(7, 0), (30, 0), (32, 0), (31, 0), (31, 0)],
            (7, 31, 32, 31): [(7, 0), (31, 0), (32, 0), (31, 0)],
        }
        for codes, expected in cases.items():
            self.assertEqual(arranged(list(codes), self.ORDERS), expected)

    def test_a_text_that_begins_with_characters_of_an_order(self):
        self.assertEqual(arranged([33, 30], self.ORDERS), [(30, 0), (33, 0)])
        self.assertEqual(arranged([31, 30, 7, 33, 30], self.ORDERS), [(30, 0), (31, 0), (7, 2), (30, 2), (33, 2)])
        self.assertEqual(arranged([30], self.ORDERS), [(30, 0)])

    def test_orders_of_1_and_254(self):
        self.assertEqual(arranged([5, 6, 7], [(6, 254), (7, 1)]), [(5, 0), (7, 0), (6, 0)])

    def test_arranging_again_changes_nothing(self):
        source = random.Random(40)
        for _ in range(200):
            codes = [source.choice((7, 8, 30, 31, 32, 33)) for _ in range(source.randrange(12))]
            pairs = arranged(codes, self.ORDERS)
            self.assertEqual(arranged([code for code, _ in pairs], self.ORDERS), pairs)
            numbers = [number for _, number in pairs]
            self.assertEqual(numbers, sorted(numbers))
            self.assertEqual(sorted(code for code, _ in pairs), sorted(codes))

    def test_neighbours_of_different_orders_may_be_exchanged(self):
        source = random.Random(41)
        orders = dict(self.ORDERS)
        for _ in range(200):
            codes = [source.choice((7, 30, 31, 32, 33)) for _ in range(10)]
            for at in range(9):
                first, second = orders.get(codes[at], 0), orders.get(codes[at + 1], 0)
                if first != second and first != 0 and second != 0:
                    exchanged = codes[:at] + [codes[at + 1], codes[at]] + codes[at + 2:]
                    self.assertEqual(arranged(exchanged, self.ORDERS), arranged(codes, self.ORDERS))


class InvalidTableTest(unittest.TestCase):
    def test_joins(self):
        for joins in ([(1, "both"), (1, "both")], [(1, "both"), (2, "back"), (1, "back")], [(1, "front")], [(1, "")],
                      [(1, "both"), (2, "Back")]):
            for codes in ([], [1], [5]):
                self.assertRaises(InvalidTable, forms, codes, joins)

    def test_orders(self):
        for orders in ([(1, 5), (1, 5)], [(1, 5), (2, 6), (1, 7)], [(1, 0)], [(1, 255)], [(1, -1)], [(2, 3), (1, 1000)]):
            for codes in ([], [1], [5]):
                self.assertRaises(InvalidTable, arranged, codes, orders)
        for order in (1, 2, 253, 254):
            self.assertEqual(arranged([1], [(1, order)]), [(1, 0)])

    def test_the_class_of_the_error(self):
        with self.assertRaises(FleuronError) as caught:
            forms([], [(1, "none")])
        self.assertEqual(InvalidTable.__bases__, (FleuronError,))
        self.assertIsInstance(caught.exception, ValueError)


class ArgumentsTest(unittest.TestCase):
    def test_arguments_are_not_modified(self):
        codes, joins, orders = [1, 3, 1, 2], list(JOINS), [(3, 7), (2, 5)]
        forms(codes, joins).append(9)
        arranged(codes, orders).append(9)
        self.assertEqual((codes, joins, orders), ([1, 3, 1, 2], JOINS, [(3, 7), (2, 5)]))


if __name__ == "__main__":
    unittest.main()
