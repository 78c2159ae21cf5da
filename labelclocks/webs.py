"""Webs: nets of places and edges that call one another, and which places a complete road comes to."""

from labelclocks.charts import Chart
from labelclocks.errors import BadWeb
from labelclocks.values import is_tuple_of, is_tuple_within, is_whole, is_within

MOST_LABELS = 4000
MOST_NETS = 400
MOST_PLACES = 4000
MOST_EDGES = 8000
MOST_BEATS = 10 ** 9
MOST_EDGE_LABELS = 8


def is_web(value):
    """Whether any value is a web."""
    if not is_tuple_of(value, 2) or not is_within(value[0], 0, MOST_LABELS):
        return False
    labels, nets = value
    if not is_tuple_within(nets, 1, MOST_NETS) or not all([_is_head(net) for net in nets]):
        return False
    if sum([net[0] for net in nets]) > MOST_PLACES or sum([len(net[1]) for net in nets]) > MOST_EDGES:
        return False
    return all([_is_edge(edge, net[0], len(nets), labels) for net in nets for edge in net[1]])


def _is_head(value):
    """Whether value has the form of a net but for its edges."""
    return is_tuple_of(value, 2) and is_whole(value[0]) and value[0] >= 1 and isinstance(value[1], tuple)


def _is_edge(value, places, nets, labels):
    """Whether value is an edge of a net with so many places, in a web of so many nets and labels."""
    if not is_tuple_of(value, 5):
        return False
    place, to, call, beats, told = value
    # no edge leads from the end
    if not is_within(place, 0, places - 2) or not is_within(to, 0, places - 1):
        return False
    if call is not None and not is_within(call, 0, nets - 1) or not is_within(beats, -MOST_BEATS, MOST_BEATS):
        return False
    return is_tuple_within(told, 0, MOST_EDGE_LABELS) and all([is_within(k, 0, labels - 1) for k in told])


def need_web(web):
    """Raises BadWeb unless web is one."""
    if not is_web(web):
        raise BadWeb("no web")


def useful(web):
    """The tuple with for each net the ascending tuple of its useful places."""
    need_web(web)
    chart = Chart(web)
    found = []
    for net, (places, _) in enumerate(web[1]):
        found.append(tuple([place for place in range(places) if chart.is_useful(chart.starts[net] + place)]))
    return tuple(found)
