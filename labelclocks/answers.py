"""What a desk does at a bench for the words of lines, and what it answers.

Each of these functions takes the bench and the list of what is told behind the word.
"""

from labelclocks.books import even_book
from labelclocks.labeltexts import text_of_label, text_of_word

DONE = "ok"
NOTHING = "-"


def _drop(bench, told):
    bench.drop(told[0])
    return DONE


def _make(bench, told):
    bench.make(told[0], told[2], told[1])
    return DONE


def _arrange(bench, told):
    bench.arrange(told[:1] + told[1])
    return DONE


def _house(bench, told):
    bench.house(told[0])
    return DONE


def _begin(bench, told):
    bench.begin(told[0])
    return DONE


def _go(bench, told):
    bench.go(told[0])
    return DONE


def _keep(bench, told):
    bench.keep(told[0])
    return DONE


def _back(bench, told):
    bench.back(told[0])
    return DONE


def _undo(bench, _):
    bench.undo()
    return DONE


def _charge(bench, told):
    book = bench.book
    book[told[0]] = told[1]
    bench.charge(book)
    return DONE


def _even(bench, told):
    bench.charge(even_book(told[0]))
    return DONE


def _units(bench, _):
    return " ".join(bench.names)


def _kept(bench, _):
    return " ".join(bench.kept) if bench.kept else NOTHING


def _ways(bench, told):
    words, registers = bench.ways(told[0])
    return " ".join([str(registers)] + [text_of_word(word) for word in words])


def _state(bench, _):
    machine = bench.machine()
    return f"{machine.state()} {machine.steps()} {machine.beats()}"


def _items(bench, _):
    machine = bench.machine()
    pairs = list(zip(machine.trace(), machine.clocks()))
    return _rows_text([item + (clock,) for item, clock in pairs if item[0] != "label"])


def _would(bench, told):
    triples = bench.would(told[0], told[2], told[1])
    return _rows_text([item + (clock, other) for item, clock, other in triples])


def _profile(bench, _):
    return _rows_text([(unit, text_of_label(label), times, beats) for unit, label, times, beats in bench.profile()])


def _book(bench, _):
    book = bench.book
    return _rows_text([(word, book[word]) for word in sorted(book)])


def _listing(bench, told):
    found = []
    for line, labels in bench.listing(told[0]):
        told_labels = _rows_text([(text_of_label(label), total) for label, total in labels])
        found.append(f"{line} # {told_labels}" if labels else line)
    return "\n".join(found)


def _rows_text(rows):
    """The text of rows of words and wholes."""
    return ", ".join([" ".join([str(part) for part in row]) for row in rows]) if rows else NOTHING


ACTIONS = {
    "drop": _drop, "make": _make, "arrange": _arrange, "house": _house, "begin": _begin, "go": _go, "keep": _keep,
    "back": _back, "undo": _undo, "charge": _charge, "even": _even, "units": _units, "kept": _kept, "ways": _ways,
    "state": _state, "items": _items, "would": _would, "profile": _profile, "book": _book, "listing": _listing,
}
