"""Prices of labels of webs, or why there are none, each with its paper."""

from math import gcd

from labelclocks.bags import Bagger
from labelclocks.charts import Chart
from labelclocks.errors import BadDen, BadPrices
from labelclocks.policies import Policy
from labelclocks.values import is_list, is_tuple_of, is_whole
from labelclocks.webs import need_web
from labelclocks.words import are_words, sums_of


def heights(web, den, prices):
    """The tuple of the heights with which den and prices fit a web, None if they do not fit."""
    need_web(web)
    if not _is_den(den):
        raise BadDen("no whole from 1 on")
    if not _are_prices(web, prices):
        raise BadPrices("no tuple of wholes, one for each label")
    return heights_on(Chart(web), den, prices)


def is_priced(web, den, prices, told):
    """Whether any values are a den, prices, and heights that show that they fit a web."""
    need_web(web)
    if not _is_den(den) or not _are_prices(web, prices):
        return False
    chart = Chart(web)
    worth = worths_told(web, chart, told)
    if worth is None or worth[chart.starts[0]] not in (None, 0):
        return False
    costs = _costs(chart, den, prices)
    return all([worth[chart.edges[at].spot] == cost_behind(chart, costs, at, worth) for at in chart.used])


def is_bag(web, words, weights, divisor, den):
    """Whether any values are words and weights that allow only multiples of den, as divisor shows."""
    need_web(web)
    if not are_words(web, words) or not is_list(weights) or len(weights) != len(words):
        return False
    if not all([is_whole(weight) for weight in weights]) or not is_whole(divisor) or not is_whole(den):
        return False
    if [weight for word, weight in zip(words, weights) if word[0] != 0 and weight != 0] or divisor < 0:
        return False
    counts, beats = sums_of(web, words, weights)
    if divisor == 0:
        return den == 0 and beats != 0 and not any(counts)
    return not [many for many in counts if many % divisor != 0] and den == divisor // gcd(divisor, beats)


def priced(web):
    """The least den and the prices that fit a web, or why nothing fits, each with its paper."""
    need_web(web)
    chart = Chart(web)
    # short roads, so that there is little to count
    policy = Policy(chart, [1] * len(chart.edges))
    bagger = Bagger(chart, policy.choice, policy.order)
    if not bagger.is_fit:
        return ("none",) + bagger.bag_against_all()
    den, prices = bagger.den_and_prices()
    words, weights, divisor = bagger.bag_against_less(den)
    told = heights_on(chart, den, prices)
    return "prices", den, prices, told, bagger.shifts(), words, weights, divisor


def heights_on(chart, den, prices):
    """As heights, of a chart."""
    costs = _costs(chart, den, prices)
    worth = [None] * chart.spot_count
    for spot in chart.order:
        if chart.is_useful(spot):
            at = chart.choice[spot]
            worth[spot] = 0 if at is None else cost_behind(chart, costs, at, worth)
    if worth[chart.starts[0]] not in (None, 0):
        return None
    if [at for at in chart.used if worth[chart.edges[at].spot] != cost_behind(chart, costs, at, worth)]:
        return None
    return net_by_net(chart, worth)


def net_by_net(chart, worth):
    """What is told of spots as a tuple for each net, with what is told of each place."""
    return tuple([tuple(worth[start:end + 1]) for start, end in zip(chart.starts, chart.ends)])


def worths_told(web, chart, value):
    """The list of what any value tells of spots; None unless it tells wholes of just the useful ones, 0 of ends."""
    nets = web[1]
    if not is_tuple_of(value, len(nets)):
        return None
    if not all([is_tuple_of(told, net[0]) for told, net in zip(value, nets)]):
        return None
    worth = [height for told in value for height in told]
    for spot, height in enumerate(worth):
        if chart.is_useful(spot) and not is_whole(height) or not chart.is_useful(spot) and height is not None:
            return None
    if [end for end in chart.ends if worth[end] not in (None, 0)]:
        return None
    return worth


def cost_behind(chart, costs, at, worth):
    """What roads cost that begin with an edge, if those behind it cost so much."""
    edge = chart.edges[at]
    return costs[at] + worth[edge.goal] + (0 if edge.start is None else worth[edge.start])


def _is_den(value):
    return is_whole(value) and value >= 1


def _are_prices(web, value):
    return is_tuple_of(value, web[0]) and all([is_whole(price) for price in value])


def _costs(chart, den, prices):
    """For each edge den times its beats less the prices of its labels."""
    return [den * edge.edge_beats - sum([prices[label] for label in edge.labels]) for edge in chart.edges]
