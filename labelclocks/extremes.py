"""The fewest beats of complete roads, or rings by which they become fewer and fewer, each with its paper."""

from labelclocks.charts import Chart
from labelclocks.errors import BadWeights
from labelclocks.papers import cost_behind, net_by_net, worths_told
from labelclocks.policies import Policy
from labelclocks.scribes import Scribe
from labelclocks.values import is_tuple_of, is_tuple_within, is_whole, is_within
from labelclocks.webs import MOST_NETS, need_web
from labelclocks.words import are_words, beats_of, place_behind, steps_beats

MOST_WEIGHT = 10 ** 8


def least(web):
    """The fewest beats of a complete road, or why there are none, each with its paper."""
    need_web(web)
    return least_on(web)


def least_on(web):
    """As least, of a right web."""
    chart = Chart(web)
    if not chart.is_useful(chart.starts[0]):
        return ("none",)
    policy = Policy(chart, [edge.edge_beats for edge in chart.edges])
    scribe = Scribe(chart, policy.choice, policy.order)
    if policy.ring is not None:
        ring = _levels(chart, scribe, policy.ring)
        return "below", tuple(scribe.words), ring
    scribe.write_own([0])
    return "least", policy.spot_costs[chart.starts[0]], net_by_net(chart, policy.spot_costs), tuple(scribe.words)


def _levels(chart, scribe, ring):
    """The levels of a ring of a policy."""
    calls = [index for index, (_, is_call) in enumerate(ring) if is_call]
    if not calls:
        road = [at for at, _ in ring]
        return ((chart.edges[road[0]].net, tuple(scribe.steps(road)), None, ()),)
    # each level begins behind a call, at the called net's start
    levels = []
    ahead = []
    first = calls[0] + 1
    for at, is_call in ring[first:] + ring[:first]:
        if is_call:
            edge = chart.edges[at]
            behind = scribe.steps(scribe.road_from(edge.goal))
            levels.append((edge.net, tuple(scribe.steps(ahead)), edge.at, tuple(behind)))
            ahead = []
        else:
            ahead.append(at)
    return tuple(levels)


def is_least(web, number, heights, words):
    """Whether any values show that a whole is the fewest beats of a complete road."""
    need_web(web)
    if not are_words(web, words) or not words or words[-1][0] != 0:
        return False
    chart = Chart(web)
    worth = worths_told(web, chart, heights)
    if worth is None or not is_whole(number):
        return False
    costs = [edge.edge_beats for edge in chart.edges]
    if [at for at in chart.used if worth[chart.edges[at].spot] > cost_behind(chart, costs, at, worth)]:
        return False
    return number == beats_of(web, words)[-1] and number == worth[chart.starts[0]]


def is_below(web, words, ring):
    """Whether any values are words and a ring on them with beats below 0."""
    need_web(web)
    if not are_words(web, words) or not is_tuple_within(ring, 1, MOST_NETS):
        return False
    if not all([is_tuple_of(level, 4) and is_within(level[0], 0, len(web[1]) - 1) for level in ring]):
        return False
    chart = Chart(web)
    if len(ring) == 1 and ring[0][2] is None:
        is_right = _is_round(web, words, chart, ring[0])
    else:
        is_right = _are_levels(web, words, chart, ring)
    return is_right and _ring_beats(web, words, ring) < 0


def _is_round(web, words, chart, level):
    """Whether the one level of a ring leads from a useful place of its net back to it."""
    net, ahead, _, behind = level
    if behind != () or not isinstance(ahead, tuple) or not ahead:
        return False
    first = ahead[0][0] if is_tuple_of(ahead[0], 2) else ahead[0]
    edges = web[1][net][1]
    if not is_within(first, 0, len(edges) - 1):
        return False
    place = edges[first][0]
    is_back = place_behind(web, words, len(words), (net, ahead), place) == place
    return is_back and chart.is_useful(chart.starts[net] + place)


def _are_levels(web, words, chart, ring):
    """Whether the levels of a ring call one another."""
    for number, (net, ahead, call, behind) in enumerate(ring):
        places, edges = web[1][net]
        if not is_within(call, 0, len(edges) - 1):
            return False
        place, to, called, _, _ = edges[call]
        if called is None or called != ring[(number + 1) - len(ring)][0]:
            return False
        if place_behind(web, words, len(words), (net, ahead), 0) != place:
            return False
        if place_behind(web, words, len(words), (net, behind), to) != places - 1:
            return False
    return chart.is_useful(chart.starts[ring[0][0]])


def _ring_beats(web, words, ring):
    """The beats of a ring."""
    beats = beats_of(web, words)
    found = 0
    for net, ahead, call, behind in ring:
        found += steps_beats(web, net, ahead, beats) + steps_beats(web, net, behind, beats)
        if call is not None:
            found += web[1][net][1][call][3]
    return found


def revalued(web, weights):
    """The web whose edges have the sums of their labels' weights as beats."""
    need_web(web)
    if not is_tuple_of(weights, web[0]) or not all([is_within(n, -MOST_WEIGHT, MOST_WEIGHT) for n in weights]):
        raise BadWeights("no tuple of weights, one for each label")
    return with_weights(web, weights)


def with_weights(web, weights):
    """As revalued, of right values."""
    nets = []
    for places, edges in web[1]:
        told = [edge[:3] + (sum([weights[label] for label in edge[4]]), edge[4]) for edge in edges]
        nets.append((places, tuple(told)))
    return web[0], tuple(nets)
