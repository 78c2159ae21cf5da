"""Words of webs: roads told in little."""

from labelclocks.errors import BadWords
from labelclocks.values import is_list, is_tuple_of, is_within
from labelclocks.webs import need_web


def is_words(web, words):
    """Whether any value is a list of words of a web."""
    need_web(web)
    return are_words(web, words)


def are_words(web, words):
    """As is_words, of a right web."""
    if not is_list(words):
        return False
    for at, word in enumerate(words):
        if not is_tuple_of(word, 2) or not is_within(word[0], 0, len(web[1]) - 1):
            return False
        places = web[1][word[0]][0]
        if place_behind(web, words, at, word, 0) != places - 1:
            return False
    return True


def place_behind(web, words, known, word, place):
    """Where steps of a net lead from a place, with the first ones of words, so many; None if they are no steps."""
    net, steps = word
    if not isinstance(steps, tuple):
        return None
    edges = web[1][net][1]
    for step in steps:
        at = step[0] if is_tuple_of(step, 2) else step
        if not is_within(at, 0, len(edges) - 1) or edges[at][0] != place:
            return None
        call = edges[at][2]
        if isinstance(step, tuple) != (call is not None):
            return None
        if call is not None and not (is_within(step[1], 0, known - 1) and words[step[1]][0] == call):
            return None
        place = edges[at][1]
    return place


def need_words(web, words):
    """Raises BadWords unless words are a list of words of a right web."""
    if not are_words(web, words):
        raise BadWords("no list of words")


def measures(web, words):
    """The list with for each word the pair of the counts and the beats of its road."""
    need_web(web)
    need_words(web, words)
    found = []
    for net, steps in words:
        counts = [0] * web[0]
        beats = 0
        times = {}
        for at, inner in steps_apart(steps):
            edge = web[1][net][1][at]
            beats += edge[3]
            for label in edge[4]:
                counts[label] += 1
            if inner is not None:
                times[inner] = times.get(inner, 0) + 1
        for inner in times:
            beats += times[inner] * found[inner][1]
            counts = [one + times[inner] * other for one, other in zip(counts, found[inner][0])]
        found.append((tuple(counts), beats))
    return found


def steps_apart(steps):
    """The pairs of the edge and the word of each step, None for no word."""
    return [step if isinstance(step, tuple) else (step, None) for step in steps]


def beats_of(web, words):
    """The list of the beats of the roads of right words."""
    found = []
    for net, steps in words:
        found.append(steps_beats(web, net, steps, found))
    return found


def steps_beats(web, net, steps, beats):
    """The beats of steps, if words have these beats."""
    edges = web[1][net][1]
    apart = steps_apart(steps)
    return sum([edges[at][3] + (0 if inner is None else beats[inner]) for at, inner in apart])


def sums_of(web, words, weights):
    """The pair of the sums of the counts, as a list, and of the beats of right words, each one so many times."""
    counts = [0] * web[0]
    beats = 0
    times = list(weights)
    for number in range(len(words) - 1, -1, -1):
        if times[number] != 0:
            net, steps = words[number]
            for at, inner in steps_apart(steps):
                edge = web[1][net][1][at]
                beats += times[number] * edge[3]
                for label in edge[4]:
                    counts[label] += times[number]
                if inner is not None:
                    times[inner] += times[number]
    return counts, beats
