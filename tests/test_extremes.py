"""[79]: the fewest beats of complete roads, and rings by which they become fewer and fewer."""

import unittest

from labelclocks.errors import BadWeb, BadWeights
from labelclocks.extremes import is_below, is_least, least, revalued
from labelclocks.webs import is_web, useful
from labelclocks.words import is_words, measures
from tests.checks import ODD_VALUES
from tests.makers import dice_of
from tests.makewebs import complete_roads, make_web
from tests.test_webs import EXAMPLE, chain

LOOP = (0, ((3, ((0, 1, None, 5, ()), (1, 0, None, -2, ()), (1, 2, None, 1, ()))),))
FALLING = (0, ((3, ((0, 1, None, 2, ()), (1, 0, None, -3, ()), (1, 2, None, 1, ()))),))
# net 1 calls itself, and each such call costs 1 less
DEEPER = (0, ((2, ((0, 1, 1, 7, ()),)), (3, ((0, 1, None, 2, ()), (1, 2, 1, -3, ()), (0, 2, None, 4, ())))))
# nets 1 and 2 call one another
MUTUAL = (0, (
    (2, ((0, 1, 1, 0, ()), (0, 1, 3, 0, ()))), (3, ((0, 1, 3, 2, ()), (1, 2, 2, 0, ()), (0, 2, None, 1, ()))),
    (3, ((0, 1, 1, -10, ()), (1, 2, 3, 1, ()))), (2, ((0, 1, None, 3, ()),))))


def changed(value):
    """All values that have one part of this one otherwise: a whole one more, None in its place, or an item less."""
    if isinstance(value, tuple):
        if value:
            yield value[:-1]
        for at, part in enumerate(value):
            for told in changed(part):
                yield value[:at] + (told,) + value[at + 1:]
    else:
        yield 0 if value is None else None
        if value is not None:
            yield value + 1


class LeastTest(unittest.TestCase):

    def test_a_least(self):
        self.assertEqual(least(EXAMPLE)[:3], ("least", 11, ((11, 3, 0), (3, 0))))
        self.assertEqual(least(LOOP), ("least", 6, ((6, 1, 0),), ((0, (0, 2)),)))
        self.assertEqual(least((0, ((1, ()),))), ("least", 0, ((0,),), ((0, ()),)))
        web = (0, ((3, ((0, 2, None, 9, ()), (0, 1, None, -4, ()), (1, 2, None, -3, ()), (1, 2, None, -5, ()))),))
        self.assertEqual(least(web=web), ("least", -9, ((-9, -5, 0),), ((0, (1, 3)),)))

    def test_none(self):
        self.assertEqual(least((0, ((2, ()),))), ("none",))
        self.assertEqual(least((0, ((2, ((0, 0, None, -5, ()),)),))), ("none",))
        self.assertEqual(least((0, ((2, ((0, 1, 0, -5, ()),)),))), ("none",))

    def test_useless_rings(self):
        # a ring that no complete road comes to, or that none leaves
        web = (0, ((4, ((0, 3, None, 9, ()), (1, 1, None, -4, ()), (1, 3, None, 0, ()), (0, 2, None, 0, ()), (2, 2, None, -1, ()))),))
        self.assertEqual(least(web), ("least", 9, ((9, None, None, 0),), ((0, (0,)),)))

    def test_rings(self):
        for web, levels in ((FALLING, 1), (DEEPER, 1), (MUTUAL, 2)):
            word, words, ring = least(web)
            self.assertEqual((word, len(ring)), ("below", levels))
            self.assertIs(is_words(web, words), True)
            self.assertIs(is_below(web, words, ring), True)
        self.assertIsNone(least(FALLING)[2][0][2])
        self.assertEqual(least(DEEPER)[2][0][2], 1)
        # a ring over an edge with a call, the called net not in it
        web = (0, ((2, ((0, 0, 1, -5, ()), (0, 1, None, 0, ()))), (2, ((0, 1, None, 4, ()),))))
        word, words, ring = least(web)
        self.assertEqual((word, ring), ("below", ((0, ((0, 0),), None, ()),)))
        self.assertIs(is_below(web, words, ring), True)

    def test_rings_of_beats_0(self):
        web = (0, ((3, ((0, 1, None, 3, ()), (1, 0, None, -3, ()), (1, 2, None, 1, ()))),))
        self.assertEqual(least(web)[:3], ("least", 4, ((4, 1, 0),)))

    def test_many_levels(self):
        # nets that call one another in a ring of 400
        for last in (-1, 0):
            nets = tuple((2, ((0, 1, (net + 1) % 400, last if net == 7 else 0, ()), (0, 1, None, 5, ()))) for net in range(400))
            told = least((0, nets))
            if last == 0:
                self.assertEqual(told[:2], ("least", 5))
            else:
                self.assertEqual((told[0], len(told[2])), ("below", 400))
                self.assertIs(is_below((0, nets), told[1], told[2]), True)

    def test_by_dice(self):
        counts = {"least": 0, "below": 0, "none": 0}
        for seed in range(900):
            dice = dice_of(seed)
            web = make_web(dice, least=dice.choice((-6, -2, -1, 0)), labels=2, nets=3, places=4, edges=5)
            told = least(web)
            self.assertEqual(least(web), told)
            counts[told[0]] += 1
            roads = complete_roads(web, 8)
            beats = [spent for _, spent in roads]
            if told[0] == "none":
                self.assertEqual(useful(web), ((),) * len(web[1]))
                self.assertEqual(roads, set())
            elif told[0] == "below":
                self.assertIs(is_below(web, *told[1:]), True)
            else:
                _, number, heights, words = told
                self.assertIs(is_least(web, number, heights, words), True)
                self.assertEqual(words[-1][0], 0)
                self.assertEqual(measures(web, words)[-1][1], number)
                self.assertTrue(all(spent >= number for spent in beats))
                self.assertFalse([ring for ring in some_rings(web) if is_below(web, words, ring)])
        self.assertGreater(min(counts.values()), 50, counts)

    def test_large(self):
        places = 4000
        edges = tuple((place, place + 1, None, 1, ()) for place in range(places - 1))
        further = tuple((place, place + 2, None, -1, ()) for place in range(places - 2))
        told = least((0, ((places, edges + further),)))
        self.assertEqual(told[1], -(places - 2) // 2 + 1)
        self.assertIs(is_least((0, ((places, edges + further),)), *told[1:]), True)
        # a ring through all places
        back = ((places - 2, 0, None, -places + 1, ()),)
        told = least((0, ((places, edges + back),)))
        self.assertEqual((told[0], len(told[2][0][1])), ("below", places - 1))

    def test_wrong_values(self):
        for value in ODD_VALUES:
            self.assertRaises(BadWeb, least, value)
            self.assertRaises(BadWeb, is_least, value, 1, ((0,),), ((0, ()),))
            self.assertRaises(BadWeb, is_below, value, (), ())


def some_rings(web):
    """Rings of one level over one or two edges without calls."""
    for net, (_, edges) in enumerate(web[1]):
        for at in range(len(edges)):
            yield ((net, (at,), None, ()),)
            for other in range(len(edges)):
                yield ((net, (at, other), None, ()),)


class IsLeastTest(unittest.TestCase):

    def test_one_part_otherwise(self):
        web = (0, ((4, ((0, 3, 1, 5, ()), (0, 2, None, 6, ()), (2, 3, None, 4, ()))), (2, ((0, 1, None, 3, ()),))))
        _, number, heights, words = least(web)
        self.assertEqual((number, heights, words), (8, ((8, None, 4, 0), (3, 0)), ((1, (0,)), (0, ((0, 0),)))))
        self.assertIs(is_least(web, number, heights, words), True)
        self.assertIs(is_least(web=web, number=8, heights=heights, words=list(words)), True)
        for value in (7, 9, None, True, "8"):
            self.assertIs(is_least(web, value, heights, words), False)
        for value in (changed(heights)):
            self.assertIs(is_least(web, 8, value, words), False, value)
        for value in changed(words):
            self.assertIs(is_least(web, 8, heights, value), False, value)
        self.assertIs(is_least(web, 8, heights, ()), False)
        # the last word is of net 0, and has these beats
        self.assertIs(is_least(web, 8, heights, words[:1]), False)
        self.assertIs(is_least(web, 8, heights, words + words[:1]), False)
        self.assertIs(is_least(web, 8, heights, words + ((0, (1, 2)),)), False)
        self.assertIs(is_least(web, 8, heights, ((0, (1, 2)),) + words), False)
        self.assertIs(is_least(web, 8, heights, ((1, (0,)), (0, (1, 2)), (0, ((0, 0),)))), True)
        for value in ODD_VALUES:
            self.assertIs(is_least(web, 8, value, words), False)
            self.assertIs(is_least(web, 8, heights, value), False)

    def test_heights_may_be_lower(self):
        # elsewhere than at the start of net 0 heights need only be at most
        web = (0, ((4, ((0, 3, None, 5, ()), (0, 2, None, 6, ()), (2, 3, None, 4, ()))),))
        self.assertIs(is_least(web, 5, ((5, None, 4, 0),), ((0, (0,)),)), True)
        self.assertIs(is_least(web, 5, ((5, None, 3, 0),), ((0, (0,)),)), True)
        self.assertIs(is_least(web, 5, ((5, None, -2, 0),), ((0, (0,)),)), False)
        self.assertIs(is_least(web, 5, ((5, None, 5, 0),), ((0, (0,)),)), False)


class IsBelowTest(unittest.TestCase):

    def test_one_level(self):
        self.assertIs(is_below(FALLING, (), ((0, (0, 1), None, ()),)), True)
        self.assertIs(is_below(web=FALLING, words=[], ring=((0, (1, 0), None, ()),)), True)
        self.assertIs(is_below(LOOP, (), ((0, (0, 1), None, ()),)), False)
        for ring in ((), [(0, (0, 1), None, ())], ((0, (0, 1), None),), ((0, (0, 1), None, (), 0),), ((0, (0, 1), None, (2,)),), ((0, (), None, ()),),
                     ((0, (0,), None, ()),), ((0, (0, 1, 0), None, ()),), ((0, (0, 2), None, ()),), ((1, (0, 1), None, ()),), ((None, (0, 1), None, ()),),
                     ((0, [0, 1], None, ()),), ((0, (0, 1), None, []),), ((0, (0, 1), None, None),), ((0, (0, (1, 0)), None, ()),), ((0, (3, 1), None, ()),),
                     ((0, ((0, 0), 1), None, ()),), ((False, (0, 1), None, ()),), ((0, (0, 1), None, ()),) * 2, None, 5, ((0, (0, True), None, ()),),
                     ((0, (None,), None, ()),), ((0, ((0,), 1), None, ()),), [[0, (0, 1), None, ()]]):
            self.assertIs(is_below(FALLING, (), ring), False, ring)
        self.assertIs(is_below(FALLING, ((0, (0,)),), ((0, (0, 1), None, ()),)), False)
        self.assertIs(is_below(FALLING, None, ((0, (0, 1), None, ()),)), False)

    def test_useful_places_only(self):
        web = (0, ((3, ((0, 2, None, 1, ()), (1, 1, None, -1, ()), (1, 2, None, 0, ()))),))
        self.assertIs(is_below(web, (), ((0, (1,), None, ()),)), False)
        web = (0, ((3, ((0, 2, None, 1, ()), (0, 1, None, 0, ()), (1, 1, None, -1, ()), (1, 2, None, 0, ()))),))
        self.assertIs(is_below(web, (), ((0, (2,), None, ()),)), True)

    def test_levels(self):
        # net 1: the edge 0, the call 1 of itself
        ring = ((1, (0,), 1, ()),)
        self.assertIs(is_below(DEEPER, (), ring), True)
        for other in (((0, (0,), 1, ()),), ((1, (), 1, ()),), ((1, (0, 0), 1, ()),), ((1, (0,), 0, ()),), ((1, (0,), 3, ()),), ((1, (0,), 1, (0,)),),
                      ((1, (0,), None, ()),), ((1, (0,), True, ()),), ((1, (0,), -1, ()),), ring + ring[:0] + ((0, (), 0, ()),)):
            self.assertIs(is_below(DEEPER, (), other), False, other)
        # twice the same level is a ring, too
        self.assertIs(is_below(DEEPER, (), ring * 2), True)
        self.assertIs(is_below(DEEPER, (), ring * 400), True)
        self.assertIs(is_below(DEEPER, (), ring * 401), False)

    def test_several_levels(self):
        words = ((3, (0,)),)
        ring = ((1, ((0, 0),), 1, ()), (2, (), 0, ((1, 0),)))
        self.assertIs(is_below(MUTUAL, words, ring), True)
        self.assertIs(is_below(MUTUAL, words, ring[::-1]), True)
        self.assertIs(is_below(MUTUAL, words, ring * 3), True)
        for other in (ring[:1], ring[1:], ring + ring[:1], ((1, ((0, 1),), 1, ()), ring[1]), ((1, (0,), 1, ()), ring[1]), (ring[0], (2, (), 0, ())),
                      (ring[0], (2, (), 1, ((1, 0),))), (ring[0], (2, (), None, ((1, 0),))), ((1, ((0, 0),), 0, ()), ring[1])):
            self.assertIs(is_below(MUTUAL, words, other), False, other)
        # what words bring counts, the called nets of the ring do not: 2 and 0 and -10 and 1, and twice the word
        for beats, told in ((2, True), (3, True), (4, False)):
            web = (0, MUTUAL[1][:3] + ((2, ((0, 1, None, beats, ()),)),))
            self.assertIs(is_below(web, words, ring), told)

    def test_one_part_otherwise(self):
        words = ((3, (0,)),)
        ring = ((1, ((0, 0),), 1, ()), (2, (), 0, ((1, 0),)))
        for value in changed(ring):
            self.assertIs(is_below(MUTUAL, words, value), False, value)
        for value in changed(words):
            self.assertIs(is_below(MUTUAL, value, ring), False, value)
        for value in ODD_VALUES:
            self.assertIs(is_below(MUTUAL, words, value), False)
            self.assertIs(is_below(MUTUAL, value, ring), False)


class RevaluedTest(unittest.TestCase):

    def test_revalued(self):
        self.assertEqual(revalued(EXAMPLE, (10, -3)), (2, ((3, ((0, 1, 1, 10, (0,)), (1, 2, 1, 0, ()))), (2, ((0, 1, None, -6, (1, 1)),)))))
        self.assertEqual(revalued(web=(0, ((1, ()),)), weights=()), (0, ((1, ()),)))
        web = (1, ((2, ((0, 1, None, 5, (0,) * 8),)),))
        for weight in (10 ** 8, -10 ** 8):
            other = revalued(web, (weight,))
            self.assertIs(is_web(other), True)
            self.assertEqual(other[1][0][1][0][3], 8 * weight)

    def test_greatest(self):
        web = (2, ((3, ((0, 1, None, 0, (0,)), (0, 1, None, 0, (1,)), (1, 2, None, 0, (0, 1)))),))
        self.assertEqual(least(revalued(web, (4, 9)))[1], 17)
        self.assertEqual(-least(revalued(web, (-4, -9)))[1], 22)

    def test_errors_in_order(self):
        for value in ODD_VALUES:
            self.assertRaises(BadWeb, revalued, value, None)
        for value in (None, (), (1,), (1, 2, 3), [1, 2], (1, True), (1, None), (10 ** 8 + 1, 0), (0, -10 ** 8 - 1), {}, "12"):
            self.assertRaises(BadWeights, revalued, EXAMPLE, value)
        self.assertRaises(BadWeb, revalued, chain(3), None)


if __name__ == "__main__":
    unittest.main()
