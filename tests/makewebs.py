"""Makes webs by dice, and tells their roads one by one; only for tests."""


def make_web(dice, fits=False, least=-6, labels=5, nets=4, places=5, edges=7):
    """A web; with fits True its beats are made of prices, but for edges by edges that no road comes to."""
    labels, nets = dice.randint(0, labels), dice.randint(1, nets)
    prices = [dice.randint(-5, 5) for _ in range(labels)]
    sizes = [dice.randint(1, places) for _ in range(nets)]
    heights = [[dice.randint(-5, 5) for _ in range(size)] for size in sizes]
    for one in heights:
        one[-1] = 0
    heights[0][0] = 0
    found = []
    for net, size in enumerate(sizes):
        told = []
        for _ in range(dice.randint(1, edges) if size > 1 else 0):
            place = dice.randrange(size - 1)
            to = dice.randrange(size) if dice.random() < 0.4 else min(size - 1, place + dice.randint(1, 2))
            call = dice.randrange(nets) if dice.random() < 0.35 else None
            read = tuple(dice.randrange(labels) for _ in range(dice.randint(0, 3))) if labels else ()
            beats = dice.randint(least, 6)
            if fits:
                beats = sum(prices[k] for k in read) + heights[net][place] - heights[net][to]
                beats -= heights[call][0] if call is not None else 0
            told.append((place, to, call, beats, read))
        found.append((size, tuple(told)))
    return (labels, tuple(found))


def ends_reached(web):
    """For each net the places from which a road to its end leads: a second reading, round after round."""
    found = [{places - 1} for places, _ in web[1]]
    for _ in range(sum(places for places, _ in web[1]) + 1):
        for net, (_, edges) in enumerate(web[1]):
            for place, to, call, _, _ in edges:
                if to in found[net] and (call is None or 0 in found[call]):
                    found[net].add(place)
    return found


def useful_places(web):
    """A second reading of useful."""
    ends = ends_reached(web)
    found = [set() for _ in web[1]]
    if 0 in ends[0]:
        found[0].add(0)
    for _ in range(sum(places for places, _ in web[1]) + 1):
        for net, (_, edges) in enumerate(web[1]):
            for place, to, call, _, _ in edges:
                if place in found[net] and to in ends[net] and (call is None or 0 in ends[call]):
                    found[net].add(to)
                    if call is not None:
                        found[call].add(0)
    return tuple(tuple(sorted(told)) for told in found)


def complete_roads(web, most):
    """The set of the pairs (counts, beats) of complete roads over at most so many edges, within calls too."""
    return {(counts, beats) for counts, beats, _ in _roads(web, 0, 0, most, {})}


def _roads(web, net, place, most, known):
    """The set of triples (counts, beats, edges) of the roads from a place."""
    key = (net, place, most)
    if key in known:
        return known[key]
    found = set()
    if place == web[1][net][0] - 1:
        found.add(((0,) * web[0], 0, 0))
    elif most > 0:
        for one, to, call, beats, read in web[1][net][1]:
            if one == place:
                own = tuple(read.count(k) for k in range(web[0]))
                inner = {((0,) * web[0], 0, 0)} if call is None else _roads(web, call, 0, most - 1, known)
                for counts, spent, edges in inner:
                    for further, more, left in _roads(web, net, to, most - 1 - edges, known):
                        found.add((
                            tuple(a + b + c for a, b, c in zip(own, counts, further)), beats + spent + more, 1 + edges + left))
    known[key] = found
    return found
