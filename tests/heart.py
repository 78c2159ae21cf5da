"""Asks runs of rows behind passes whether they do what the program's own run does, by the readings of the passes."""

from labelclocks.errors import NotHere, TooLarge
from labelclocks.lowering import lowered
from labelclocks.meaning import Run
from labelclocks.passes import passed
from labelclocks.reading import frames, read
from labelclocks.rowruns import RowRun
from labelclocks.sourceroads import road_book

PLAIN = (("fold",), ("copies",), ("dead",), ("twice",), ("thread",), ("last",))


def retold_run(run, readings):
    """The items and stations of a program's own run as rows have them, and the frames behind the last label."""
    labels = [item[1] for item in run.trace() if item[0] == "label"]
    written = read(readings, labels)
    told = iter(written)
    items, stations = [], []
    for item, station in zip(run.trace(), run.stations()):
        if item[0] == "label":
            label = next(told)
            if label is None:
                continue
            item = ("label",) + label
        items.append(item)
        stations.append(station)
    opened = frames(readings, labels)
    is_left_out = bool(run.trace()) and run.trace()[-1][0] == "label" and written[-1] is None
    return items, stations, (opened[-1] if opened else []), is_left_out


def does_as_source(test, program, made, inputs, portions):
    """made: for each unit the pair (rows, reading)."""
    readings = {unit[0]: (reading, road_book(unit)) for unit, (_, reading) in zip(program, made)}
    run, row_run = Run(program, inputs), RowRun([rows for rows, _ in made], inputs)
    for portion in portions:
        run.go(portion)
        items, stations, opened, is_left_out = retold_run(run, readings)
        row_run.go(len(items) - len(row_run.trace()))
        test.assertEqual(row_run.trace(), items)
        test.assertEqual(row_run.stations(), stations)
        if run.state() == "running":
            # behind a label that is left out the rows may be further on, or not yet so far
            if not is_left_out:
                test.assertEqual(row_run.calls(), opened)
                test.assertEqual(row_run.left(), run.left())
            continue
        test.assertEqual((row_run.state(), row_run.left()), (run.state(), run.left()))
        for unit in program:
            for x, _ in unit[3]:
                test.assertEqual(row_run.cells(unit[0], x), run.cells(unit[0], x))
        break
    return row_run


def words_to_choose(rows, roads):
    """All words that name labels of the rows, and the plain ones."""
    labels = [block[0] for code in rows[5] for block in code[4] if block[0] is not None]
    words = [("peel", label) for label in labels if label[1] in roads[label[0]][label[1]][2]]
    for code in rows[5]:
        for _, _, ending in code[4]:
            if ending[0] == "call":
                words.append(("lay", code[4][ending[4]][0]))
    return words


def made_by_dice(dice, unit, many):
    """The triple (rows, reading, words) behind so many words that dice tell; those that cannot be are left out."""
    rows, reading, roads, words = lowered(unit), ((), (), ()), road_book(unit), []
    for _ in range(many):
        choices = words_to_choose(rows, roads)
        word = dice.choice(choices) if choices and dice.random() < 0.6 else dice.choice(PLAIN)
        try:
            rows, reading = passed(rows, roads, reading, word)
        except (NotHere, TooLarge):
            continue
        words.append(word)
    return rows, reading, words
