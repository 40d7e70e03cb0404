import unittest

from kit import LISTS, STRANGE

from gustfloor import planes
from gustfloor.planes import cross, is_name, is_point, is_wind

MOST = 1000000


class PlaneTests(unittest.TestCase):
    def asked(self, ask, yes, no):
        for value in yes:
            self.assertIs(ask(value), True, repr(value))
        for value in no:
            self.assertIs(ask(value), False, repr(value))

    def test_interface(self):
        for call in (cross, is_name, is_point, is_wind):
            self.assertEqual(call.__module__, "gustfloor.planes")
            self.assertIs(getattr(planes, call.__name__), call)

    def test_parameters_by_name(self):
        self.assertTrue(is_name(value="a"))
        self.assertTrue(is_point(value=(0, 0)))
        self.assertTrue(is_wind(value=(0, 1)))
        self.assertEqual(cross(other=(3, 4), one=(1, 2)), -2)

    def test_names(self):
        self.asked(is_name, ["a", "z", "ab", "zzz", "abcdefg", "abcdefgh", "tile"], STRANGE + LISTS)
        self.asked(is_name, [], [
            "", "abcdefghi", "a" * 20000, "A", "aB", "Ab", "a1", "1", "a-b", "a_b", " a", "a ", "a\n", "\n", "a b",
            "\u00e4", "\u00df", "a\u00e9", "\u0131", "\u03b1", b"a", ("a",), ["a"], {"a": 1},
        ])

    def test_each_character_as_a_name(self):
        for code in range(0, 400):
            self.assertIs(is_name(chr(code)), "a" <= chr(code) <= "z", code)

    def test_points(self):
        yes = [(0, 0), (1, 2), (-1, -2), (MOST, MOST), (-MOST, -MOST), (MOST, -MOST), (-MOST, 0), (0, MOST)]
        no = [
            (MOST + 1, 0), (0, MOST + 1), (-MOST - 1, 0), (0, -MOST - 1), (10 ** 99, 0), (0, -(10 ** 99)), [0, 0],
            [1, 2], (0,), (0, 0, 0), (), (True, 0), (0, True), (False, False), (0, None), ("0", 0), (0, "0"), "00",
            ((0, 0), (0, 0)), (0.0, 0), ([0], 0), {0: 0, 1: 1},
        ]
        self.asked(is_point, yes, no + STRANGE)
        self.asked(is_point, [], [value for value in LISTS])

    def test_winds(self):
        yes = [(0, 1), (1, 0), (0, -1), (-1, 0), (3, -4), (MOST, MOST), (-MOST, -MOST), (MOST, 0), (0, -MOST)]
        no = [
            (0, 0), (MOST + 1, 1), (1, MOST + 1), (-MOST - 1, 1), (1, -MOST - 1), (10 ** 99, 1), [0, 1], [1, 2], (1,),
            (1, 2, 3), (), (True, 1), (1, False), (False, True), (False, False), (1, None), ("1", 1), "11",
            ((0, 1), (1, 0)), (1.0, 1),
        ]
        self.asked(is_wind, yes, no + STRANGE)
        self.asked(is_wind, [], [value for value in LISTS])

    def test_cross(self):
        rows = [
            ((1, 0), (0, 1), 1), ((0, 1), (1, 0), -1), ((2, 3), (5, 7), -1), ((2, -3), (-5, 7), -1),
            ((4, 6), (2, 3), 0), ((0, 0), (5, 7), 0), ((-1, 2), (3, 4), -10),
            ((10 ** 60, 1), (1, 10 ** 60), 10 ** 120 - 1),
        ]
        for one, other, result in rows:
            self.assertEqual(cross(one, other), result)
            self.assertEqual(cross(other, one), -result)


if __name__ == "__main__":
    unittest.main()
