"""[72], [73]: webs and their useful places."""

import unittest

from labelclocks.errors import BadWeb
from labelclocks.webs import is_web, useful
from tests.checks import ODD_VALUES
from tests.makers import dice_of
from tests.makewebs import make_web, useful_places

EXAMPLE = (2, ((3, ((0, 1, 1, 5, (0,)), (1, 2, 1, 0, ()))), (2, ((0, 1, None, 3, (1, 1)),))))


def web_with(net):
    return (2, (net, (1, ())))


def chain(many):
    """A net of so many places, one behind another."""
    return (many, tuple((place, place + 1, None, 1, ()) for place in range(many - 1)))


class IsWebTest(unittest.TestCase):

    def test_webs(self):
        for web in (EXAMPLE, (0, ((1, ()),)), (4000, ((2, ((0, 1, 0, 10 ** 9, (3999,) * 8), (0, 0, None, -10 ** 9, ()))),)), web_with((5, ()))):
            self.assertIs(is_web(web), True)

    def test_wrong_values(self):
        for value in ODD_VALUES + (EXAMPLE[:1], EXAMPLE + ((),), list(EXAMPLE), (2, list(EXAMPLE[1])), (2, ()), (2, (None,))):
            self.assertIs(is_web(value), False)
        for labels in (-1, 4001, None, True, "2"):
            self.assertIs(is_web((labels, ((1, ()),))), False)

    def test_nets(self):
        for net in ((1, ()), (3, ())):
            self.assertIs(is_web(web_with(net)), True)
        for net in ((0, ()), (-1, ()), (True, ()), (None, ()), (2, []), (2,), (2, (), ()), [2, ()], (2, None), None, (2, (None,)), (2, ((),))):
            self.assertIs(is_web(web_with(net)), False, net)

    def test_edges(self):
        right = (0, 1, None, 5, (0, 1))
        for at, told, wrong in (
                (0, (0, 1), (-1, 2, 3, None, True, "0")), (1, (0, 1, 2), (-1, 3, None, False)), (2, (None, 0, 1), (2, -1, True, "0", ())),
                (3, (0, 10 ** 9, -10 ** 9), (10 ** 9 + 1, -10 ** 9 - 1, None, True)),
                (4, ((), (0,), (1,) * 8), ((0,) * 9, (2,), (-1,), [0], (True,), None, (None,)))):
            for value in told:
                self.assertIs(is_web(web_with((3, (right[:at] + (value,) + right[at + 1:],)))), True)
            for value in wrong:
                self.assertIs(is_web(web_with((3, (right, right[:at] + (value,) + right[at + 1:])))), False, value)
        for edge in (right[:4], right + (0,), list(right), None, 0):
            self.assertIs(is_web(web_with((3, (edge,)))), False)
        # none leads from the end
        self.assertIs(is_web(web_with((1, ((0, 0, None, 0, ()),)))), False)
        self.assertIs(is_web((0, ((2, ((0, 1, None, 1, (0,)),)),))), False)

    def test_bounds(self):
        self.assertIs(is_web((0, ((1, ()),) * 400)), True)
        self.assertIs(is_web((0, ((1, ()),) * 401)), False)
        self.assertIs(is_web((0, (chain(3999), chain(1)))), True)
        self.assertIs(is_web((0, (chain(3999), chain(2)))), False)
        self.assertIs(is_web((0, (chain(4001),))), False)
        edge = (0, 1, None, 0, ())
        self.assertIs(is_web((0, ((2, (edge,) * 4000), (2, (edge,) * 4000)))), True)
        self.assertIs(is_web((0, ((2, (edge,) * 4000), (2, (edge,) * 4001)))), False)


class UsefulTest(unittest.TestCase):

    def test_useful(self):
        self.assertEqual(useful(EXAMPLE), ((0, 1, 2), (0, 1)))
        self.assertEqual(useful((0, ((1, ()),))), ((0,),))
        self.assertEqual(useful(web=(0, ((1, ()), (1, ())))), ((0,), ()))

    def test_without_a_complete_road(self):
        self.assertEqual(useful((0, ((2, ()),))), ((),))
        self.assertEqual(useful((0, ((2, ((0, 0, None, 1, ()),)), (2, ((0, 1, None, 1, ()),))))), ((), ()))
        # a net without an end, and one that only calls itself
        self.assertEqual(useful((0, ((2, ((0, 1, 1, 1, ()),)), (2, ())))), ((), ()))
        self.assertEqual(useful((0, ((2, ((0, 1, 0, 1, ()),)),))), ((),))

    def test_dead_ends(self):
        # place 1 leads nowhere, place 3 is not come to, place 2 leads to a call that does not come back
        edges = ((0, 1, None, 0, ()), (0, 4, None, 0, ()), (3, 4, None, 0, ()), (0, 2, None, 0, ()), (2, 4, 1, 0, ()))
        self.assertEqual(useful((0, ((5, edges), (2, ())))), ((0, 4), ()))

    def test_rings_and_calls_of_themselves(self):
        ring = (3, ((0, 1, None, 0, ()), (1, 0, None, 0, ()), (1, 2, None, 0, ())))
        self.assertEqual(useful((0, (ring,))), ((0, 1, 2),))
        own = (3, ((0, 1, 0, 0, ()), (0, 2, None, 0, ()), (1, 2, 1, 0, ())))
        self.assertEqual(useful((0, (own, (2, ((0, 1, 0, 0, ()),))))), ((0, 1, 2), (0, 1)))
        # calls that go round and never come back
        self.assertEqual(useful((0, ((2, ((0, 1, 1, 0, ()), (0, 1, None, 0, ()))), (2, ((0, 1, 2, 0, ()),)), (2, ((0, 1, 1, 0, ()),))))), (
            (0, 1), (), ()))

    def test_by_dice(self):
        some = 0
        for seed in range(1500):
            web = make_web(dice_of(seed))
            told = useful(web)
            self.assertEqual(told, useful_places(web))
            some += any(told)
        self.assertGreater(some, 500)

    def test_large(self):
        self.assertEqual(useful((0, (chain(4000),))), (tuple(range(4000)),))
        nets = tuple((2, ((0, 1, net + 1, 1, ()),)) for net in range(399)) + ((1, ()),)
        self.assertEqual(useful((0, nets)), ((0, 1),) * 399 + ((0,),))

    def test_wrong_values(self):
        for value in ODD_VALUES:
            self.assertRaises(BadWeb, useful, value)


if __name__ == "__main__":
    unittest.main()
