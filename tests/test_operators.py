"""[v1], [v2], [c16]: operators."""

import unittest

from foretask.operators import both, negative, opposite, truth

BOUND = 10 ** 60
ONE_OF_EACH = (("none",), ("bool", True), ("bool", False), ("int", 0), ("int", 1), ("int", -7), ("text", ""),
               ("text", "1"), ("object", (), 0), ("object", (0, 1), 2))
KIND = ("error", "kind")


class OperatorCase(unittest.TestCase):
    def same(self, found, wanted):
        """Checks a result with the classes of what it holds: True is no 1."""
        self.assertEqual(found, wanted)
        self.assertIs(found[1].__class__, wanted[1].__class__)
        if isinstance(wanted[1], tuple) and len(wanted[1]) > 1:
            self.assertIs(found[1][1].__class__, wanted[1][1].__class__)

    def integer(self, op, a, b, wanted):
        with self.subTest(op=op, a=a, b=b):
            self.same(both(op, ("int", a), ("int", b)), ("ok", ("int", wanted)))

    def error(self, op, a, b, words):
        with self.subTest(op=op, a=a, b=b):
            self.assertEqual(both(op, a, b), ("error", words))


class TestIntegers(OperatorCase):
    def test_sum_difference_product(self):
        for op, a, b, wanted in (
            ("+", 2, 3, 5), ("+", -2, 3, 1), ("+", 0, 0, 0), ("-", 2, 3, -1), ("-", -2, -3, 1), ("-", 5, 0, 5),
            ("*", 2, 3, 6), ("*", -2, 3, -6), ("*", -2, -3, 6), ("*", 0, 7, 0), ("*", 10 ** 29, 10 ** 30, 10 ** 59),
        ):
            self.integer(op, a, b, wanted)

    def test_overflow(self):
        for op, a, b in (
            ("+", BOUND - 1, 1), ("+", 1 - BOUND, -1), ("-", 1 - BOUND, 1), ("-", BOUND - 1, -1), ("*", 10 ** 30, 10 ** 30),
            ("*", -10 ** 30, 10 ** 30), ("*", BOUND - 1, 2), ("*", 10 ** 59, 10), ("*", BOUND - 1, BOUND - 1),
            ("+", BOUND - 1, BOUND - 1), ("-", 1 - BOUND, BOUND - 1), ("*", 10 ** 59, -10),
        ):
            self.error(op, ("int", a), ("int", b), "overflow")

    def test_one_below_the_bound(self):
        for op, a, b, wanted in (
            ("+", BOUND - 2, 1, BOUND - 1), ("+", 2 - BOUND, -1, 1 - BOUND), ("+", BOUND - 1, 0, BOUND - 1),
            ("-", 2 - BOUND, 1, 1 - BOUND), ("-", BOUND - 2, -1, BOUND - 1), ("-", BOUND - 1, BOUND - 1, 0),
            ("*", BOUND - 1, 1, BOUND - 1), ("*", BOUND - 1, -1, 1 - BOUND), ("*", 10 ** 30 - 1, 10 ** 30 + 1, BOUND - 1),
            ("*", 1 - 10 ** 30, 10 ** 30 + 1, 1 - BOUND), ("+", BOUND - 1, 1 - BOUND, 0),
        ):
            self.integer(op, a, b, wanted)

    def test_quotient_and_remainder(self):
        for a, b, quotient, remainder in (
            (7, 2, 3, 1), (-7, 2, -4, 1), (7, -2, -4, -1), (-7, -2, 3, -1), (6, 3, 2, 0), (-6, 3, -2, 0), (6, -3, -2, 0),
            (0, 5, 0, 0), (0, -5, 0, 0), (1, 10, 0, 1), (-1, 10, -1, 9), (1, -10, -1, -9), (5, 1, 5, 0), (5, -1, -5, 0),
            (BOUND - 1, 10 ** 30, 10 ** 30 - 1, 10 ** 30 - 1), (1 - BOUND, 10 ** 30, -10 ** 30, 1),
            (BOUND - 1, 1, BOUND - 1, 0), (BOUND - 1, -1, 1 - BOUND, 0), (10 ** 50 + 3, 7, (10 ** 50 + 3) // 7, 5),
        ):
            self.integer("/", a, b, quotient)
            self.integer("mod", a, b, remainder)
            self.assertEqual(quotient * b + remainder, a)

    def test_division_by_zero(self):
        for op in ("/", "mod"):
            for a in (0, 1, -1, BOUND - 1):
                self.error(op, ("int", a), ("int", 0), "division by zero")

    def test_comparisons(self):
        for a, b, less, not_more in ((1, 2, True, True), (2, 2, False, True), (3, 2, False, False), (-3, 2, True, True),
                                     (2, -3, False, False), (0, 0, False, True), (1 - BOUND, BOUND - 1, True, True)):
            self.same(both("<", ("int", a), ("int", b)), ("ok", ("bool", less)))
            self.same(both("<=", ("int", a), ("int", b)), ("ok", ("bool", not_more)))


class TestKinds(OperatorCase):
    def test_operators_of_integers(self):
        for op in ("+", "-", "*", "/", "mod", "<", "<="):
            for a in ONE_OF_EACH:
                for b in ONE_OF_EACH:
                    if a[0] != "int" or b[0] != "int":
                        self.error(op, a, b, "kind")

    def test_together_takes_texts(self):
        for a in ONE_OF_EACH:
            for b in ONE_OF_EACH:
                if a[0] != "text" or b[0] != "text":
                    self.error("&", a, b, "kind")

    def test_kinds_come_before_a_zero_divisor_and_the_size(self):
        self.error("/", ("text", "a"), ("int", 0), "kind")
        self.error("mod", ("none",), ("int", 0), "kind")
        self.error("/", ("bool", True), ("int", 0), "kind")
        self.error("/", ("int", 1), ("bool", False), "kind")
        self.error("mod", ("int", 1), ("bool", False), "kind")
        self.error("&", ("text", "a" * 200), ("int", 5), "kind")
        self.error("*", ("int", BOUND - 1), ("bool", True), "kind")


class TestTexts(OperatorCase):
    def test_together(self):
        for a, b in (("", ""), ("a", ""), ("", "b"), ("a", "b"), ("b", "a"), ("x\n", '"\\')):
            self.assertEqual(both("&", ("text", a), ("text", b)), ("ok", ("text", a + b)))

    def test_size(self):
        for many in (0, 1, 100, 199, 200):
            a, b = "a" * many, "b" * (200 - many)
            self.assertEqual(both("&", ("text", a), ("text", b)), ("ok", ("text", a + b)))
            self.error("&", ("text", a), ("text", b + "c"), "size")
            self.error("&", ("text", a + "c"), ("text", b), "size")
        self.error("&", ("text", "a" * 200), ("text", "b" * 200), "size")
        self.assertEqual(both("&", ("text", "\n" * 100), ("text", '"' * 100)), ("ok", ("text", "\n" * 100 + '"' * 100)))


class TestSame(OperatorCase):
    def test_of_each_kind(self):
        for at, a in enumerate(ONE_OF_EACH):
            for other, b in enumerate(ONE_OF_EACH):
                with self.subTest(a=a, b=b):
                    self.same(both("==", a, b), ("ok", ("bool", at == other)))

    def test_equal_values_that_are_not_one_thing(self):
        self.same(both("==", ("int", 10 ** 50), ("int", int("1" + "0" * 50))), ("ok", ("bool", True)))
        self.same(both("==", ("text", "ab"), ("text", "".join(["a", "b"]))), ("ok", ("bool", True)))
        self.same(both("==", ("object", (0,), 1), ("object", tuple([0]), 1)), ("ok", ("bool", True)))

    def test_unlike_kinds(self):
        for a, b in (
            (("int", 1), ("bool", True)), (("int", 0), ("bool", False)), (("text", "1"), ("int", 1)), (("none",), ("int", 0)),
            (("none",), ("bool", False)), (("none",), ("text", "")), (("text", "none"), ("none",)),
            (("text", "true"), ("bool", True)), (("object", (), 0), ("int", 0)), (("object", (), 0), ("none",)),
        ):
            self.same(both("==", a, b), ("ok", ("bool", False)))
            self.same(both("==", b, a), ("ok", ("bool", False)))

    def test_unlike_values(self):
        for a, b in ((("int", 1), ("int", -1)), (("text", "a"), ("text", "A")), (("text", "a"), ("text", "a ")),
                     (("object", (), 0), ("object", (), 1)), (("object", (0,), 0), ("object", (1,), 0)),
                     (("object", (), 1), ("object", (0,), 1))):
            self.same(both("==", a, b), ("ok", ("bool", False)))


class TestOneOperand(OperatorCase):
    def test_negative(self):
        for a, wanted in ((0, 0), (1, -1), (-7, 7), (BOUND - 1, 1 - BOUND), (1 - BOUND, BOUND - 1)):
            self.same(negative(("int", a)), ("ok", ("int", wanted)))
        for a in ONE_OF_EACH:
            if a[0] != "int":
                self.assertEqual(negative(a), KIND)

    def test_opposite(self):
        self.same(opposite(("bool", True)), ("ok", ("bool", False)))
        self.same(opposite(("bool", False)), ("ok", ("bool", True)))
        for a in ONE_OF_EACH:
            if a[0] != "bool":
                self.assertEqual(opposite(a), KIND)

    def test_truth(self):
        self.assertEqual(truth(("bool", True)), ("ok", True))
        self.assertIs(truth(("bool", True))[1], True)
        self.assertEqual(truth(("bool", False)), ("ok", False))
        self.assertIs(truth(("bool", False))[1], False)
        for a in ONE_OF_EACH:
            if a[0] != "bool":
                self.assertEqual(truth(a), KIND)


if __name__ == "__main__":
    unittest.main()
