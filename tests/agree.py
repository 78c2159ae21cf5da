"""Asks runs of rows behind a pass whether they do what the rows ahead of it do."""

from labelclocks.passes import passed
from labelclocks.rowruns import RowRun
from labelclocks.rows import is_rows

ROADS = ((((), ("give",), ()),),)
NO_READING = ((), (), ())


def changed_by(rows, word):
    """The rows behind a pass that leaves the reading as it is."""
    reading = (((0, 7, ()),), (), ())
    found, behind = passed(rows, ROADS, reading, (word,))
    assert behind == reading
    return found


def seen(run, rows):
    """All that a run shows which passes leave as it is."""
    cells = [run.cells(rows[1], x) for x, _ in rows[4]]
    return run.trace(), run.stations(), run.state(), run.left(), run.calls(), cells


def does_same(test, rows, other, inputs, portions):
    """Asks two rows alike, unless the first one's run is astray."""
    test.assertTrue(is_rows(other))
    test.assertEqual(other[:5], rows[:5])
    test.assertEqual([code[:3] for code in other[5]], [code[:3] for code in rows[5]])
    run, other_run = RowRun([rows], inputs), RowRun([other], inputs)
    for portion in portions:
        run.go(portion)
        other_run.go(portion)
        if run.trace() and run.trace()[-1] == ("failed", "astray"):
            break
        test.assertEqual(seen(other_run, other), seen(run, rows))
