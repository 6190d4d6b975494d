import unittest

from nearby.palettes import is_prime, palettes, prime_from, shrunk, step_of


def is_prime_by_words(number):
    return number >= 2 and not any(number % divisor == 0 for divisor in range(2, number))


def step_by_words(degree, colors):
    """The step, by going through all numbers one by one."""
    found = []
    for k in range(1, len(bin(colors)) - 2 + 1):
        q = degree * k + 1
        while q ** (k + 1) < colors or not is_prime_by_words(q):
            q += 1
        found.append((q, k))
    return min(found)


def value_by_words(color, place, step):
    prime, most = step
    return sum(color // prime ** power % prime * place ** power for power in range(most + 1)) % prime


class PrimesTest(unittest.TestCase):
    def test_is_prime(self):
        for number in range(-30, 400):
            self.assertIs(is_prime(number), is_prime_by_words(number), number)
        for number in [-7, -2, -1, 0, 1]:
            self.assertIs(is_prime(number), False)
        self.assertIs(is_prime(2), True)
        for prime in [2, 3, 5, 7, 11, 101, 997]:
            self.assertIs(is_prime(prime * prime), False)
        self.assertIs(is_prime(99991), True)
        self.assertIs(is_prime(99991 * 99989), False)

    def test_prime_from(self):
        for number, prime in [
            (-10, 2), (-1, 2), (0, 2), (1, 2), (2, 2), (3, 3), (4, 5), (8, 11), (9, 11), (25, 29), (90, 97), (97, 97),
            (114, 127), (9409, 9413), (99992, 100003),
        ]:
            self.assertEqual(prime_from(number), prime)


class StepsTest(unittest.TestCase):
    def test_by_hand(self):
        # For 100 colors and 3: k = 1 asks for q > 3 with q q >= 100, so 11; k = 2 for q > 6 with q q q >= 100, so 7;
        # k = 3 for q > 9, so 11, and so on.
        self.assertEqual(step_of(3, 100), (7, 2))
        self.assertEqual(step_of(1, 1), (2, 1))
        self.assertEqual(step_of(1, 4), (2, 1))
        self.assertEqual(step_of(1, 5), (3, 1))
        self.assertEqual(step_of(1, 10), (3, 2))
        self.assertEqual(step_of(6, 1), (7, 1))

    def test_the_least_k_of_the_same_q(self):
        self.assertEqual(step_of(1, 16), (3, 2))
        self.assertEqual(step_of(2, 25), (5, 1))
        self.assertEqual(step_of(6, 169), (13, 1))

    def test_direct_search(self):
        for degree in list(range(1, 13)) + [20, 31]:
            for colors in list(range(1, 70)) + [100, 121, 122, 128, 255, 256, 257, 343, 344, 1000, 4095, 4096, 4097]:
                self.assertEqual(step_of(degree, colors), step_by_words(degree, colors), (degree, colors))
        for degree in [1, 2, 3, 4, 6]:
            for colors in [9999, 32768, 65537, 99999, 100000]:
                self.assertEqual(step_of(degree, colors), step_by_words(degree, colors), (degree, colors))

    def test_great_numbers_of_colors(self):
        for degree in [1, 10]:
            self.assertEqual(step_of(degree, 10 ** 10), step_by_words(degree, 10 ** 10))

    def test_palettes(self):
        self.assertEqual(palettes((1, 1)), [1])
        self.assertEqual(palettes((2, 5)), [5])
        self.assertEqual(palettes((3, 100000)), [100000, 169, 49])
        for degree in range(1, 8):
            for names in list(range(1, 200)) + [1000, 4096, 50000, 99999]:
                expected = [names]
                while True:
                    square = step_by_words(degree, expected[-1])[0] ** 2
                    if square >= expected[-1]:
                        break
                    expected.append(square)
                found = palettes((degree, names))
                self.assertIs(type(found), list)
                self.assertEqual(found, expected)

    def test_the_last_palette_does_not_shrink(self):
        for degree in range(1, 8):
            # A palette with as many colors as the step makes stays as it is.
            square = step_of(degree, 100000)[0] ** 2
            last = palettes((degree, square))[-1]
            self.assertGreaterEqual(step_of(degree, last)[0] ** 2, last)
            self.assertEqual(palettes((degree, last)), [last])

    def test_lists_are_new(self):
        palettes((3, 1000)).clear()
        self.assertEqual(palettes((3, 1000))[0], 1000)


class ShrunkTest(unittest.TestCase):
    def test_by_hand(self):
        # 28 is 3 + 0 5 + 1 25: the polynomial 3 + x x modulo 5, with the values 3 4 2 2 4.
        self.assertEqual(shrunk(28, [], (5, 2)), 3)
        # 13 is 3 + 2 5: the polynomial 3 + 2 x, with the values 3 0 2 4 1, so 1 is the least place.
        self.assertEqual(shrunk(28, [13], (5, 2)), 5 * 1 + 4)
        # 4 has the value 4 everywhere: 0 and 2 are taken by 13, 1 is taken by 4.
        self.assertEqual(shrunk(28, [13, 4], (5, 2)), 5 * 3 + 2)
        self.assertEqual(shrunk(28, [4, 13], (5, 2)), 5 * 3 + 2)

    def test_without_others_it_is_the_lowest_digit(self):
        for step in [(2, 1), (3, 2), (7, 2), (11, 1)]:
            for color in range(step[0] ** (step[1] + 1)):
                self.assertEqual(shrunk(color, [], step), color % step[0])

    def by_words(self, color, others, step):
        for place in range(step[0]):
            value = value_by_words(color, place, step)
            if all(value != value_by_words(other, place, step) for other in others):
                return step[0] * place + value
        raise AssertionError("there is a place")

    def test_one_other(self):
        for degree, colors in [(1, 9), (1, 30), (2, 60), (3, 49)]:
            step = step_of(degree, colors)
            for color in range(colors):
                for other in range(colors):
                    if other != color:
                        new = shrunk(color, [other], step)
                        self.assertEqual(new, self.by_words(color, [other], step))
                        self.assertNotEqual(new, shrunk(other, [color], step))
                        self.assertTrue(0 <= new < step[0] ** 2)

    def test_as_many_others_as_the_degree_number(self):
        for degree, colors in [(2, 100), (3, 1000), (4, 100000), (6, 99999)]:
            step = step_of(degree, colors)
            for start in range(0, 40000, 97):
                mixed = [start * start + 7919 * more * start + 31 * more for more in range(degree + 1)]
                known = sorted({color % colors for color in mixed})
                if len(known) < degree + 1:
                    continue
                for color in known:
                    others = [other for other in known if other != color]
                    new = shrunk(color, others, step)
                    self.assertEqual(new, self.by_words(color, others, step))
                    self.assertTrue(0 <= new < step[0] ** 2)
                news = [shrunk(color, [other for other in known if other != color], step) for color in known]
                self.assertEqual(len(set(news)), degree + 1)

    def test_the_last_place_is_needed(self):
        # 0 is 0 everywhere, 3 is the polynomial x, and 5 is 2 + x: only at the place 2 both differ from 0 modulo 3.
        self.assertEqual(shrunk(0, [3, 5], (3, 1)), 3 * 2 + 0)

    def test_only_the_lowest_digits_count(self):
        # 9 and 18 have the digits 0 0 1 and 0 0 2 in base 3; two of them count.
        self.assertEqual(shrunk(9, [3, 5], (3, 1)), 6)
        self.assertEqual(shrunk(18 + 1, [3 + 1], (3, 1)), 3 * 1 + 1)

    def test_a_neighbor_of_the_same_color_is_no_error(self):
        self.assertIn(shrunk(5, [5, 1], (3, 1)), range(9))

    def test_nothing_is_modified(self):
        others = [13, 4]
        shrunk(28, others, (5, 2))
        self.assertEqual(others, [13, 4])


if __name__ == "__main__":
    unittest.main()
