"""Terms, sums in order, and multiplying out."""

import unittest

from drawnsums.sums import constant, is_nought, less, letter, plus, terms, times


def all_letters():
    return [letter(index) for index in range(4)]


class Sums(unittest.TestCase):
    def test_a_number(self):
        self.assertEqual(terms(constant(7)), [(7, 0, 0, 0, 0)])
        self.assertEqual(terms(constant(-7)), [(-7, 0, 0, 0, 0)])

    def test_nought_has_no_terms(self):
        self.assertEqual(terms(constant(0)), [])
        self.assertTrue(is_nought(constant(0)))
        self.assertFalse(is_nought(constant(1)))

    def test_each_letter_has_its_own_power(self):
        s, t, u, v = all_letters()
        self.assertEqual(terms(s), [(1, 1, 0, 0, 0)])
        self.assertEqual(terms(t), [(1, 0, 1, 0, 0)])
        self.assertEqual(terms(u), [(1, 0, 0, 1, 0)])
        self.assertEqual(terms(v), [(1, 0, 0, 0, 1)])

    def test_terms_are_in_order(self):
        s, t, u, v = all_letters()
        f = plus(plus(constant(9), v), plus(u, plus(t, times(times(v, v), times(u, v)))))
        f = plus(plus(f, times(t, v)), plus(s, times(s, s)))
        self.assertEqual(terms(f), [
            (1, 2, 0, 0, 0), (1, 1, 0, 0, 0), (1, 0, 1, 0, 1), (1, 0, 1, 0, 0),
            (1, 0, 0, 1, 3), (1, 0, 0, 1, 0), (1, 0, 0, 0, 1), (9, 0, 0, 0, 0)])

    def test_terms_that_go_are_not_kept(self):
        s, t = all_letters()[:2]
        product = times(plus(s, t), less(s, t))
        self.assertEqual(terms(product), [(1, 2, 0, 0, 0), (-1, 0, 2, 0, 0)])
        self.assertTrue(is_nought(plus(product, less(times(t, t), times(s, s)))))
        self.assertTrue(is_nought(less(product, product)))

    def test_taking_off_what_is_not_there(self):
        s, t = all_letters()[:2]
        self.assertEqual(terms(less(s, times(constant(2), t))), [(1, 1, 0, 0, 0), (-2, 0, 1, 0, 0)])

    def test_nought_times_anything_is_nought(self):
        self.assertTrue(is_nought(times(constant(0), letter(2))))
        self.assertTrue(is_nought(times(letter(2), constant(0))))

    def test_high_powers_stay_apart(self):
        f = letter(3)
        for power in range(2, 200):
            f = times(f, letter(3))
        self.assertEqual(terms(f), [(1, 0, 0, 0, 199)])

    def test_what_is_put_together_is_not_changed(self):
        f, g = plus(letter(0), constant(1)), less(letter(0), constant(1))
        before = (terms(f), terms(g))
        plus(f, g)
        less(f, g)
        less(f, f)
        times(f, g)
        self.assertEqual((terms(f), terms(g)), before)


if __name__ == "__main__":
    unittest.main()
