"""Terms, sums in order, and multiplying out."""

import unittest

from drawnsums.sums import (comes_to, common_in, constant, flat_terms, is_nought, less, letter, most_in, plus,
                            power_of, put, terms, times)


def all_letters():
    return [letter(index) for index in range(4)]


class Sums(unittest.TestCase):
    def test_a_number(self):
        self.assertEqual(terms(constant(7)), [(7, 0, 0, 0, 0)])
        self.assertEqual(terms(constant(-7)), [(-7, 0, 0, 0, 0)])

    def test_nought_has_no_terms(self):
        self.assertEqual(terms(constant(0)), [])
        self.assertTrue(is_nought(constant(0)))
        self.assertFalse(is_nought(constant(1)))

    def test_each_letter_has_its_own_power(self):
        s, t, u, v = all_letters()
        self.assertEqual(terms(s), [(1, 1, 0, 0, 0)])
        self.assertEqual(terms(t), [(1, 0, 1, 0, 0)])
        self.assertEqual(terms(u), [(1, 0, 0, 1, 0)])
        self.assertEqual(terms(v), [(1, 0, 0, 0, 1)])

    def test_terms_are_in_order(self):
        s, t, u, v = all_letters()
        f = plus(plus(constant(9), v), plus(u, plus(t, times(times(v, v), times(u, v)))))
        f = plus(plus(f, times(t, v)), plus(s, times(s, s)))
        self.assertEqual(terms(f), [
            (1, 2, 0, 0, 0), (1, 1, 0, 0, 0), (1, 0, 1, 0, 1), (1, 0, 1, 0, 0),
            (1, 0, 0, 1, 3), (1, 0, 0, 1, 0), (1, 0, 0, 0, 1), (9, 0, 0, 0, 0)])

    def test_terms_that_go_are_not_kept(self):
        s, t = all_letters()[:2]
        product = times(plus(s, t), less(s, t))
        self.assertEqual(terms(product), [(1, 2, 0, 0, 0), (-1, 0, 2, 0, 0)])
        self.assertTrue(is_nought(plus(product, less(times(t, t), times(s, s)))))
        self.assertTrue(is_nought(less(product, product)))

    def test_taking_off_what_is_not_there(self):
        s, t = all_letters()[:2]
        self.assertEqual(terms(less(s, times(constant(2), t))), [(1, 1, 0, 0, 0), (-2, 0, 1, 0, 0)])

    def test_nought_times_anything_is_nought(self):
        self.assertTrue(is_nought(times(constant(0), letter(2))))
        self.assertTrue(is_nought(times(letter(2), constant(0))))

    def test_high_powers_stay_apart(self):
        f = letter(3)
        for power in range(2, 200):
            f = times(f, letter(3))
        self.assertEqual(terms(f), [(1, 0, 0, 0, 199)])

    def test_what_is_put_together_is_not_changed(self):
        f, g = plus(letter(0), constant(1)), less(letter(0), constant(1))
        before = (terms(f), terms(g))
        plus(f, g)
        less(f, g)
        less(f, f)
        times(f, g)
        self.assertEqual((terms(f), terms(g)), before)
        put(f, 0, 3)
        comes_to(f, [5])
        self.assertEqual((terms(f), terms(g)), before)


class Looking(unittest.TestCase):
    def setUp(self):
        s, t = all_letters()[:2]
        # 6 s s t - 10 t + 4
        self.f = plus(less(times(constant(6), times(s, times(s, t))), times(constant(10), t)), constant(4))

    def test_terms_one_behind_another(self):
        self.assertEqual(flat_terms(self.f), [6, 2, 1, 0, 0, -10, 0, 1, 0, 0, 4, 0, 0, 0, 0])
        self.assertEqual(flat_terms(constant(0)), [])

    def test_a_letters_power(self):
        self.assertEqual([power_of(self.f, index) for index in range(4)], [2, 1, 0, 0])
        self.assertEqual(power_of(constant(0), 0), 0)

    def test_the_greatest_size(self):
        self.assertEqual(most_in(self.f), 10)
        self.assertEqual(most_in(constant(0)), 0)

    def test_what_divides_all(self):
        self.assertEqual(common_in([self.f]), 2)
        self.assertEqual(common_in([constant(-12), constant(0), constant(18)]), 6)
        self.assertEqual(common_in([self.f, constant(3)]), 1)

    def test_a_letter_put_to_a_number(self):
        self.assertEqual(terms(put(self.f, 0, -1)), [(-4, 0, 1, 0, 0), (4, 0, 0, 0, 0)])
        self.assertEqual(terms(put(self.f, 1, 0)), [(4, 0, 0, 0, 0)])
        self.assertEqual(terms(put(self.f, 2, 5)), terms(self.f))
        self.assertTrue(is_nought(put(less(letter(3), constant(7)), 3, 7)))

    def test_what_it_comes_to(self):
        self.assertEqual(comes_to(self.f, [3, -2]), 6 * 9 * -2 + 20 + 4)
        self.assertEqual(comes_to(self.f, [0, 0, 5, 5]), 4)
        self.assertEqual(comes_to(constant(-3), []), -3)
        self.assertEqual(comes_to(constant(0), []), 0)


if __name__ == "__main__":
    unittest.main()
