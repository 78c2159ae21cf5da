"""[75] to [77]: prices with heights, bags, and that just one of the two comes."""

import itertools
import unittest
from math import gcd

from labelclocks.errors import BadDen, BadPrices, BadWeb
from labelclocks.papers import heights, is_bag, is_priced, priced
from labelclocks.webs import is_web, useful
from labelclocks.words import is_words, measures
from tests.checks import ODD_VALUES
from tests.makers import dice_of
from tests.makewebs import complete_roads, make_web
from tests.test_webs import EXAMPLE, chain
from tests.test_words import words_by_dice

THREE = ((0, 1, None, 10, (0, 0)), (0, 1, None, 14, (1, 1)), (0, 1, None, 13, (0, 1)))
NO_PRICES = (2, ((2, THREE),))
FITTING = (2, ((2, THREE[:2] + ((0, 1, None, 12, (0, 1)),)),))
HALF = (1, ((2, ((0, 1, None, 5, (0, 0)),)),))
# net 0 goes round as often as it likes and calls net 1, which may call itself
LOOP = (3, (
    (4, ((0, 1, None, 2, (0,)), (1, 1, 1, 8, (1,)), (1, 2, 1, 5, ()), (2, 3, None, 0, (0,)), (0, 0, None, 0, ()))),
    (3, ((0, 1, None, 4, (2,)), (1, 0, 1, 3, (1,)), (1, 2, None, 1, ()), (0, 2, None, 5, (2,))))))


def without_beats(web):
    return (web[0], tuple((places, tuple(edge[:3] + (0,) + edge[4:] for edge in edges)) for places, edges in web[1]))


def with_edge(web, net, at, edge):
    places, edges = web[1][net]
    nets = web[1][:net] + ((places, edges[:at] + (edge,) + edges[at + 1:]),) + web[1][net + 1:]
    return (web[0], nets)


def is_bag_by_measures(web, words, weights, divisor, den):
    """A second reading of [76], of words and whole weights."""
    if any(weight for (net, _), weight in zip(words, weights) if net != 0):
        return False
    told = measures(web, words)
    sums = [sum(weight * counts[k] for weight, (counts, _) in zip(weights, told)) for k in range(web[0])]
    beats = sum(weight * spent for weight, (_, spent) in zip(weights, told))
    if divisor == 0:
        return den == 0 and beats != 0 and not any(sums)
    return all(number % divisor == 0 for number in sums) and den * gcd(divisor, beats) == divisor


def left_of(shifts, row):
    """What is left of a row when as many shifts as need be are taken off."""
    for shift in shifts:
        pivot = [at for at, number in enumerate(shift) if number][0]
        times = row[pivot] // shift[pivot]
        row = [a - times * b for a, b in zip(row, shift)]
    return row


class HeightsTest(unittest.TestCase):

    def test_where_they_fit(self):
        self.assertEqual(heights(FITTING, 1, (5, 7)), ((0, 0),))
        self.assertEqual(heights(web=FITTING, den=3, prices=(15, 21)), ((0, 0),))
        self.assertEqual(heights(HALF, 2, (5,)), ((0, 0),))
        self.assertEqual(heights(EXAMPLE, 1, (1, 5)), None)
        self.assertEqual(heights(EXAMPLE, 1, (11, 0)), ((0, 3, 0), (3, 0)))
        self.assertEqual(heights(EXAMPLE, 2, (6, 4)), ((0, -2, 0), (-2, 0)))
        self.assertEqual(heights((0, ((1, ()),)), 7, ()), ((0,),))

    def test_where_they_do_not(self):
        self.assertIsNone(heights(NO_PRICES, 1, (5, 7)))
        self.assertIsNone(heights(FITTING, 1, (5, 8)))
        self.assertIsNone(heights(FITTING, 2, (5, 7)))
        self.assertIsNone(heights(HALF, 1, (2,)))
        self.assertIsNone(heights((0, ((2, ((0, 1, None, 1, ()),)),)), 1, ()))

    def test_loops_and_calls(self):
        # the price of label 1 is that of a round, which goes through net 1
        told = heights(LOOP, 1, (0, 0, 0))
        self.assertIsNone(told)
        self.assertEqual(heights(LOOP, 2, priced(LOOP)[2]), priced(LOOP)[3])
        fits = (2, ((2, ((0, 1, None, 4, (0,)), (0, 0, 1, 7, (1,)))), (2, ((0, 1, None, 2, ()), (0, 1, 1, 0, ())))))
        self.assertEqual(heights(fits, 1, (4, 9)), ((0, 0), (2, 0)))
        self.assertIsNone(heights(fits, 1, (4, 8)))

    def test_useless_places(self):
        web = (1, ((4, ((0, 3, None, 5, (0,)), (0, 1, None, 1, (0,)), (2, 3, None, 99, ()))), (2, ((0, 1, None, 1, ()),))))
        self.assertEqual(heights(web, 1, (5,)), ((0, None, None, 0), (None, None)))
        self.assertEqual(heights((2, ((2, ()),)), 3, (1, 2)), ((None, None),))

    def test_by_dice_against_roads(self):
        fitting = 0
        for seed in range(250):
            dice = dice_of(seed)
            web = make_web(dice, True, labels=3, nets=3, places=4, edges=4)
            told = priced(web)
            tries = [(dice.randint(1, 3), tuple(dice.randint(-6, 6) for _ in range(web[0])))]
            if told[0] == "prices":
                tries.append((told[1], told[2]))
                tries.append((3 * told[1], tuple(3 * price for price in told[2])))
            roads = complete_roads(web, 9)
            for den, prices in tries:
                found = heights(web, den, prices)
                fits = all(den * beats == sum(p * c for p, c in zip(prices, counts)) for counts, beats in roads)
                if found is not None:
                    self.assertTrue(fits)
                    self.assertIs(is_priced(web, den, prices, found), True)
                    fitting += bool(roads)
                elif fits:
                    # a longer road tells why
                    self.assertFalse(all(
                        den * beats == sum(p * c for p, c in zip(prices, counts)) for counts, beats in complete_roads(web, 16)))
        self.assertGreater(fitting, 100)

    def test_errors_in_order(self):
        for value in ODD_VALUES:
            self.assertRaises(BadWeb, heights, value, None, None)
        for value in (0, -1, None, True, "1", ()):
            self.assertRaises(BadDen, heights, HALF, value, None)
        for value in (None, (), (1, 2), [5], (True,), ("5",), 5, {}):
            self.assertRaises(BadPrices, heights, HALF, 1, value)


class IsPricedTest(unittest.TestCase):

    def test_one_part_otherwise(self):
        web = (1, ((4, ((0, 3, None, 5, (0,)), (0, 1, None, 1, (0,)), (2, 3, None, 99, ()), (0, 3, 1, 4, (0,)))), (2, ((0, 1, None, 1, ()),))))
        told = heights(web, 1, (5,))
        self.assertEqual(told, ((0, None, None, 0), (1, 0)))
        self.assertIs(is_priced(web, 1, (5,), told), True)
        self.assertIs(is_priced(web=web, den=2, prices=(10,), told=((0, None, None, 0), (2, 0))), True)
        for value in (0, -1, 2, None, True, "1"):
            self.assertIs(is_priced(web, value, (5,), told), False)
        for value in ((4,), (), (5, 5), [5], None, (True,), ("5",)):
            self.assertIs(is_priced(web, 1, value, told), False)
        for net, place, values in (
                (0, 0, (1, -1, None, True, False, "0")), (0, 1, (0, 1, False)), (0, 3, (1, None, False)), (1, 0, (0, 2, None, True)), (1, 1, (1, -1, None))):
            for value in values:
                other = told[net][:place] + (value,) + told[net][place + 1:]
                self.assertIs(is_priced(web, 1, (5,), told[:net] + (other,) + told[net + 1:]), False, (net, place, value))
        for value in ODD_VALUES + (list(told), told[:1], told + ((),), (told[0], list(told[1])), (told[0], told[1] + (0,)), (told[0][:3], told[1])):
            self.assertIs(is_priced(web, 1, (5,), value), False)
        for value in ODD_VALUES:
            self.assertRaises(BadWeb, is_priced, value, 1, (5,), told)

    def test_all_places_shifted(self):
        # the start of net 0, and ends, have 0
        web = (0, ((3, ((0, 1, None, 2, ()), (1, 2, None, -2, ()))),))
        self.assertIs(is_priced(web, 1, (), ((0, -2, 0),)), True)
        self.assertIs(is_priced(web, 1, (), ((1, -1, 1),)), False)
        web = (0, ((3, ((0, 1, None, 2, ()), (1, 2, None, 1, ()))),))
        self.assertIs(is_priced(web, 1, (), ((3, 1, 0),)), False)
        self.assertIs(is_priced(web, 1, (), ((0, -2, -3),)), False)


class IsBagTest(unittest.TestCase):

    def test_against_all(self):
        words = [(0, (0,)), (0, (1,)), (0, (2,))]
        self.assertIs(is_bag(NO_PRICES, words, [1, 1, -2], 0, 0), True)
        self.assertIs(is_bag(web=NO_PRICES, words=tuple(words), weights=(-3, -3, 6), divisor=0, den=0), True)
        self.assertIs(is_bag(NO_PRICES, words, [1, 1, -1], 0, 0), False)
        self.assertIs(is_bag(FITTING, words, [1, 1, -2], 0, 0), False)
        self.assertIs(is_bag(NO_PRICES, words, [0, 0, 0], 0, 0), False)
        self.assertIs(is_bag(NO_PRICES, words, [1, 1, -2], 0, 1), False)
        # 0 is divided by all, and so each multiple of den 1
        self.assertIs(is_bag(NO_PRICES, words, [1, 1, -2], 2, 1), True)
        self.assertIs(is_bag(NO_PRICES, words, [1, 1, -2], 4, 2), True)

    def test_against_less(self):
        words = ((0, (0,)),)
        self.assertIs(is_bag(HALF, words, (1,), 2, 2), True)
        self.assertIs(is_bag(HALF, words, (3,), 6, 2), True)
        self.assertIs(is_bag(HALF, words, (-1,), 2, 2), True)
        for divisor, den in ((1, 1), (2, 2)):
            self.assertIs(is_bag(HALF, words, (1,), divisor, den), True)
        for divisor, den in ((1, 2), (2, 1), (4, 4), (3, 3), (-2, 2), (-2, -2), (2, 4), (0, 0), (2, True), (True, 1), (None, 2), (2, None), ("2", 2)):
            self.assertIs(is_bag(HALF, words, (1,), divisor, den), False)
        self.assertIs(is_bag(HALF, (), (), 1, 1), True)
        self.assertIs(is_bag(HALF, [], [], 5, 1), True)
        self.assertIs(is_bag(HALF, [], [], 0, 0), False)

    def test_one_part_otherwise(self):
        words = ((1, (0,)), (0, ((0, 0), (1, 0))))
        self.assertIs(is_bag(EXAMPLE, words, (0, 1), 1, 1), True)
        # words of other nets have the weight 0
        self.assertIs(is_bag(EXAMPLE, words, (1, 1), 1, 1), False)
        for value in ((1,), (0, 1, 0), (0, True), (0, None), (0, "1"), None, {0: 1}, 1, ()):
            self.assertIs(is_bag(EXAMPLE, words, value, 1, 1), False)
        for value in (words[::-1], words[:1], (words[0], (0, (0, (1, 0)))), None, 1):
            self.assertIs(is_bag(EXAMPLE, value, (0, 1), 1, 1), False)
        for value in ODD_VALUES:
            self.assertRaises(BadWeb, is_bag, value, words, (0, 1), 1, 1)
            self.assertIs(is_bag(EXAMPLE, words, (0, 1), value, 1), value == 1 and value is not True)

    def test_by_dice(self):
        right = 0
        for seed in range(400):
            dice = dice_of(seed)
            web = make_web(dice, dice.random() < 0.5, labels=3)
            words = words_by_dice(web, dice, 6)
            weights = [dice.randint(-2, 2) if net == 0 else 0 for net, _ in words]
            for divisor in range(5):
                for den in range(5):
                    told = is_bag(web, words, weights, divisor, den)
                    self.assertIs(told, is_bag_by_measures(web, words, weights, divisor, den))
                    right += told
        self.assertGreater(right, 300)


class PricedTest(unittest.TestCase):

    def ask(self, web):
        """Asks an answer all that can be asked of it; tells its den, 0 if nothing fits."""
        told = priced(web)
        self.assertEqual(priced(web), told)
        if told[0] == "none":
            _, words, weights = told
            self.assertIs(is_bag(web, words, weights, 0, 0), True)
            self.assertTrue(is_bag_by_measures(web, words, weights, 0, 0))
            return 0
        word, den, prices, found, shifts, words, weights, divisor = told
        self.assertEqual(word, "prices")
        self.assertIs(is_priced(web, den, prices, found), True)
        self.assertEqual(heights(web, den, prices), found)
        self.assertIs(is_bag(web, words, weights, divisor, den), True)
        self.assertTrue(is_bag_by_measures(web, words, weights, divisor, den))
        if den == 1:
            self.assertEqual((words, weights, divisor), ((), (), 1))
        self.assertIsInstance(shifts, list)
        pivots = []
        for at, shift in enumerate(shifts):
            self.assertIsInstance(shift, tuple)
            self.assertEqual(len(shift), web[0])
            self.assertIsNotNone(heights(without_beats(web), 1, shift))
            pivot = [k for k, number in enumerate(shift) if number][0]
            self.assertGreater(shift[pivot], 0)
            self.assertTrue(all(pivot > other for other in pivots))
            for other in shifts[:at]:
                self.assertTrue(0 <= other[pivot] < shift[pivot])
            self.assertTrue(0 <= prices[pivot] < shift[pivot])
            pivots.append(pivot)
        # the shifts are all there are
        for row in itertools.product(range(-2, 3), repeat=min(web[0], 4)):
            row = row + (0,) * (web[0] - len(row))
            is_sum = not any(left_of(shifts, row))
            self.assertIs(heights(without_beats(web), 1, row) is not None, is_sum)
        return den

    def test_examples(self):
        self.assertEqual(self.ask(NO_PRICES), 0)
        self.assertEqual(priced(FITTING), ("prices", 1, (5, 7), ((0, 0),), [], (), (), 1))
        self.assertEqual(self.ask(HALF), 2)
        self.assertEqual(priced(HALF)[:5], ("prices", 2, (5,), ((0, 0),), []))

    def test_without_a_complete_road(self):
        for web in ((2, ((2, ()),)), (2, ((2, ((0, 1, 0, 3, (1,)),)),))):
            self.assertEqual(priced(web), ("prices", 1, (0, 0), ((None, None),), [(1, 0), (0, 1)], (), (), 1))
        self.assertEqual(priced((0, ((1, ()),))), ("prices", 1, (), ((0,),), [], (), (), 1))
        self.assertEqual(priced((1, ((1, ()),))), ("prices", 1, (0,), ((0,),), [(1,)], (), (), 1))

    def test_shifts(self):
        # one road over both labels: what one costs more the other one costs less
        web = (2, ((2, ((0, 1, None, 9, (0, 1, 1)),)),))
        self.assertEqual(priced(web), ("prices", 1, (1, 4), ((0, 0),), [(2, -1)], (), (), 1))
        # labels that stand nowhere
        web = (3, ((2, ((0, 1, None, 9, (1,)),)),))
        self.assertEqual(priced(web)[2:5], ((0, 9, 0), ((0, 0),), [(1, 0, 0), (0, 0, 1)]))
        web = (3, ((2, ((0, 1, None, 6, (0, 0, 1, 1, 1, 2, 2, 2)),)),))
        self.assertEqual(self.ask(web), 1)
        self.assertEqual(priced(web)[4], [(3, 0, -2), (0, 1, -1)])

    def test_nothing_but_beats(self):
        self.assertEqual(self.ask((1, ((2, ((0, 1, None, 1, ()),)),))), 0)
        self.assertEqual(self.ask((1, ((2, ((0, 1, None, 1, (0,)), (0, 0, None, 1, ()))),))), 0)
        self.assertEqual(self.ask((1, ((2, ((0, 1, None, 0, ()), (0, 1, None, 0, ()))),))), 1)

    def test_dens(self):
        # three times a label is 7 beats, five times another one 9, of seven times both together 1 is left
        edges = ((0, 1, None, 7, (0,) * 3), (0, 1, None, 9, (1,) * 5))
        self.assertEqual(self.ask((2, ((2, edges),))), 15)
        self.assertEqual(self.ask((2, ((2, edges[:1]),))), 3)
        for many in range(1, 9):
            self.assertEqual(self.ask((1, ((2, ((0, 1, None, 1, (0,) * many),)),))), many)
        # a difference of two roads that are odd each
        self.assertEqual(self.ask((1, ((2, ((0, 1, None, 1, (0,) * 3), (0, 0, None, 1, (0,) * 5))),))), 0)
        self.assertEqual(self.ask((2, ((3, ((0, 1, None, 4, (0, 0)), (1, 2, None, 1, (1,)), (1, 1, None, 3, (1, 1)))),))), 4)

    def test_calls_and_rings(self):
        self.assertEqual(self.ask(LOOP), 2)
        self.assertEqual(self.ask(with_edge(LOOP, 0, 4, (0, 0, None, 1, ()))), 0)
        fits = (2, ((2, ((0, 1, None, 4, (0,)), (0, 0, 1, 7, (1,)))), (2, ((0, 1, None, 2, ()), (0, 1, 1, 0, ())))))
        self.assertEqual(self.ask(fits), 1)
        for net, (_, edges) in enumerate(fits[1]):
            for at, edge in enumerate(edges):
                other = edge[:3] + (edge[3] + 1,) + edge[4:]
                self.assertEqual(self.ask(with_edge(fits, net, at, other)), 1 if (net, at) in ((0, 0), (0, 1), (1, 0)) else 0)

    def test_by_dice(self):
        dens = {}
        for seed in range(700):
            dice = dice_of(seed)
            web = make_web(dice, dice.random() < 0.6, labels=4)
            den = self.ask(web)
            dens[min(den, 3)] = dens.get(min(den, 3), 0) + 1
        self.assertGreater(min(dens[den] for den in (0, 1, 2, 3)), 1, dens)

    def test_one_edge_otherwise(self):
        answers = {True: 0, False: 0}
        for seed in range(150):
            dice = dice_of(seed)
            web = make_web(dice, True, labels=4)
            places = useful(web)
            before = self.ask(web)
            self.assertGreater(before, 0)
            for net, (_, edges) in enumerate(web[1]):
                for at, edge in enumerate(edges):
                    if edge[0] in places[net] and edge[1] in places[net]:
                        other = with_edge(web, net, at, edge[:3] + (edge[3] + 1,) + edge[4:])
                        answers[self.ask(other) > 0] += 1
        self.assertGreater(min(answers.values()), 30, answers)

    def test_larger_webs(self):
        for seed in range(12):
            dice = dice_of(seed)
            web = make_web(dice, True, labels=40, nets=12, places=12, edges=25)
            told = priced(web)
            self.assertEqual(told[0], "prices")
            self.assertIs(is_priced(web, *told[1:4]), True)
            other = make_web(dice, False, labels=40, nets=12, places=12, edges=25)
            told = priced(other)
            if told[0] == "none":
                self.assertIs(is_bag(other, told[1], told[2], 0, 0), True)

    def test_a_long_chain(self):
        places = 1200
        web = (places - 1, ((places, tuple((place, place + 1, None, place, (place,)) for place in range(places - 1))),))
        self.assertIs(is_web(web), True)
        told = priced(web)
        self.assertEqual(told[1], 1)
        self.assertEqual(told[2], (0,) * (places - 2) + ((places - 2) * (places - 1) // 2,))
        self.assertEqual(len(told[4]), places - 2)
        self.assertEqual(told[4][5], (0,) * 5 + (1,) + (0,) * (places - 8) + (-1,))

    def test_counts_beyond_all_bounds(self):
        # net 1 calls the next one twice, and so on; the road without calls has a count of 1
        nets = [(2, ((0, 1, 1, 0, ()), (0, 1, None, 1, (1,))))]
        nets += [(3, ((0, 1, net + 1, 0, ()), (1, 2, net + 1, 0, ()))) for net in range(1, 60)] + [(2, ((0, 1, None, 3, (0,)),))]
        web = (2, tuple(nets))
        told = priced(web)
        self.assertEqual(told[:3], ("prices", 1, (3, 1)))
        odd = (2, tuple(nets[:-1]) + ((2, ((0, 1, None, 3, (0, 0)),)),))
        told = priced(odd)
        self.assertEqual(told[:3], ("prices", 2, (3, 2)))
        self.assertIs(is_bag(odd, told[5], told[6], told[7], 2), True)
        self.assertIs(is_words(odd, told[5]), True)

    def test_wrong_values(self):
        for value in ODD_VALUES + (chain(3),):
            self.assertRaises(BadWeb, priced, value)


if __name__ == "__main__":
    unittest.main()
