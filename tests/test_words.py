"""[74]: words of webs and their measures."""

import unittest

from labelclocks.errors import BadWeb, BadWords
from labelclocks.words import is_words, measures
from tests.checks import ODD_VALUES
from tests.makers import dice_of
from tests.makewebs import ends_reached, make_web
from tests.test_webs import EXAMPLE

WORDS = ((1, (0,)), (0, ((0, 0), (1, 0))))


def words_by_dice(web, dice, many):
    """Words that go at random to ends."""
    ends = ends_reached(web)
    words, of_net = [], {}
    for _ in range(many):
        net = dice.randrange(len(web[1]))
        places, edges = web[1][net]
        place, steps = 0, []
        while place != places - 1 and len(steps) < 30:
            ways = [at for at, edge in enumerate(edges) if edge[0] == place and edge[1] in ends[net] and (edge[2] is None or edge[2] in of_net)]
            if not ways:
                break
            at = dice.choice(ways)
            call = edges[at][2]
            steps.append(at if call is None else (at, dice.choice(of_net[call])))
            place = edges[at][1]
        if place == places - 1:
            of_net.setdefault(net, []).append(len(words))
            words.append((net, tuple(steps)))
    return words


def walked(web, words, number):
    """The edges of a word's road, one by one."""
    net, steps = words[number]
    for step in steps:
        at, inner = step if isinstance(step, tuple) else (step, None)
        yield web[1][net][1][at]
        if inner is not None:
            yield from walked(web, words, inner)


class WordsTest(unittest.TestCase):

    def test_example(self):
        self.assertIs(is_words(EXAMPLE, WORDS), True)
        self.assertEqual(measures(EXAMPLE, WORDS), [((0, 2), 3), ((1, 4), 11)])
        self.assertEqual(measures(web=EXAMPLE, words=list(WORDS)), [((0, 2), 3), ((1, 4), 11)])

    def test_no_words(self):
        self.assertIs(is_words(EXAMPLE, []), True)
        self.assertEqual(measures(EXAMPLE, ()), [])
        # a net whose start is its end
        self.assertIs(is_words((3, ((1, ()),)), [(0, ())]), True)
        self.assertEqual(measures((3, ((1, ()),)), [(0, ())]), [((0, 0, 0), 0)])

    def wrong(self, *words):
        self.assertIs(is_words(EXAMPLE, words), False, words)
        self.assertIs(is_words(EXAMPLE, list(words)), False)
        self.assertRaises(BadWords, measures, EXAMPLE, words)

    def test_one_part_otherwise(self):
        one, other = WORDS
        for value in ODD_VALUES:
            if value not in ([], ()):
                self.assertIs(is_words(EXAMPLE, value), False)
                self.assertRaises(BadWords, measures, EXAMPLE, value)
                self.wrong(one, value)
        for net in (2, -1, None, True, "1"):
            self.wrong(one, (net, one[1]))
        self.wrong(list(one))
        self.wrong(one + (1,))
        self.wrong((1, [0]))
        self.wrong((1, (1,)))
        self.wrong((1, (-1,)))
        self.wrong((1, (False,)))
        self.wrong((1, ((0, 0),)))
        # a road that does not lead to the end, or goes on behind it, or does not go on where it stands
        self.wrong((1, ()))
        self.wrong((1, (0, 0)))
        self.wrong(one, (0, ((0, 0),)))
        self.wrong(one, (0, ((1, 0),)))
        self.wrong(one, (0, ((0, 0), (0, 0))))
        self.wrong(one, (0, ((0, 0), (1, 0), (1, 0))))
        # calls: an earlier word, which is of the called net
        self.wrong(other, one)
        self.wrong(one, (0, ((0, 1), (1, 0))))
        self.wrong(one, other, (0, ((0, 0), (1, 1))))
        self.wrong(one, (0, (0, (1, 0))))
        self.wrong(one, (0, ((0, -1), (1, 0))))
        self.wrong(one, (0, ((0, None), (1, 0))))
        self.wrong(one, (0, ((0, False), (1, 0))))
        self.wrong(one, (0, ([0, 0], (1, 0))))
        self.wrong(one, (0, ((0, 0, 0), (1, 0))))

    def test_by_dice(self):
        told = 0
        for seed in range(300):
            dice = dice_of(seed)
            web = make_web(dice)
            words = words_by_dice(web, dice, 12)
            self.assertIs(is_words(web, words), True)
            found = measures(web, words)
            for number in range(len(words)):
                if sum(found[number][0]) < 10000:
                    edges = list(walked(web, words, number)) if number < 8 else None
                    if edges is not None and len(edges) < 5000:
                        counts = tuple(sum(edge[4].count(k) for edge in edges) for k in range(web[0]))
                        self.assertEqual(found[number], (counts, sum(edge[3] for edge in edges)))
                        told += 1
        self.assertGreater(told, 300)

    def test_words_for_millions_of_edges(self):
        # each net calls the next one twice
        nets = [(3, ((0, 1, net + 1, 0, ()), (1, 2, net + 1, 1, ()))) for net in range(60)] + [(2, ((0, 1, None, 3, (0, 1, 1)),))]
        web = (2, tuple(nets))
        words = [(60, (0,))] + [(net, ((0, 59 - net), (1, 59 - net))) for net in range(59, -1, -1)]
        self.assertIs(is_words(web, words), True)
        self.assertEqual(measures(web, words)[-1], ((2 ** 60, 2 ** 61), 3 * 2 ** 60 + 2 ** 60 - 1))

    def test_errors_in_order(self):
        for value in ODD_VALUES:
            self.assertRaises(BadWeb, is_words, value, None)
            self.assertRaises(BadWeb, measures, value, None)


if __name__ == "__main__":
    unittest.main()
