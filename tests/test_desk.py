"""[89]: a desk, at which a bench is worked at by lines."""

import unittest

from labelclocks.bench import Bench
from labelclocks.books import WORDS, even_book
from labelclocks.desk import Desk
from labelclocks.labeltexts import label_text, passes_text
from labelclocks.lines import tokens_of
from labelclocks.readtexts import program_of, unit_of
from labelclocks.texts import unit_text
from tests.benches import UNITS, W, deed_by_dice, two, try_deed
from tests.checks import ODD_VALUES, token_pairs
from tests.compile import TWO
from tests.makers import dice_of

SMALL = "unit u size 10\nfunction main()\nbody main\n  local x number\n  ask x\n  show 1 (x + 1)"
QUESTIONS = ("units", "kept", "state", "items", "profile", "book")


def line_of(deed, book):
    """The line of a deed, None if there is none; book is the one ahead of it."""
    word = deed[0]
    if word == "put":
        return f"put\n{unit_text(deed[1])}"
    if word == "make":
        return " ".join(["make", deed[1], str(deed[3])] + passes_text(deed[2]).split())
    if word in ("arrange", "begin"):
        return " ".join([word] + [str(part) for part in deed[1]])
    if word == "charge":
        return None
    return f"{word} {deed[1]}"


def answers(desk, names=("u", "v", "w")):
    """All that a desk answers to questions."""
    lines = list(QUESTIONS)
    for name in names:
        lines += [f"ways {name}", f"listing {name}", f"would {name} 8", f"would {name} 3 fold dead thread"]
    return [desk.say(line) for line in lines]


class DeskTest(unittest.TestCase):

    def ask(self, desk, *pairs):
        for line, told in pairs:
            self.assertEqual(desk.say(line), told, line)

    def test_example(self):
        desk = Desk()
        self.ask(
            desk, ("go 1", "empty"), ("read\n" + SMALL, "ok"), ("units", "u"), ("ways u", "8"), ("items", "-"), ("state", "running 0 0"),
            ("make u 3 fold dead", "ok"), ("ways u", "3 fold dead"), ("make u 3 lay:0.1", "error nothere"), ("make u 9", "error badregisters"),
            ("make v 3", "error nounit"), ("drop u", "error badprogram"), ("begin 14", "ok"), ("go 500", "ok"), ("undo", "ok"),
            ("state", "running 0 0"), ("put\nunit v size 9\nfunction f()\nbody f", "error badprogram"), ("put\nunit u size", "error badtext 1 12"),
            ("keep if", "what"), ("back k", "error notkept"))

    def test_questions(self):
        desk = Desk()
        self.ask(
            desk, ("read\n" + SMALL, "ok"), ("begin 14", "ok"), ("go 500", "ok"), ("units", "u"), ("kept", "-"), ("keep b", "ok"),
            ("keep a", "ok"), ("kept", "a b"))
        bench = Bench(program_of(SMALL))
        bench.begin([14])
        bench.go(500)
        machine = bench.machine()
        self.ask(desk, ("state", f"{machine.state()} {machine.steps()} {machine.beats()}"))
        clocks = machine.clocks()
        self.ask(desk, ("items", f"asked 4 {clocks[1]}, shown 1 5 {clocks[2]}, end {clocks[3]}"))
        other = [row[2] for row in bench.would("u", [("fold",), ("dead",)], 3)]
        self.ask(desk, ("would u 3 fold dead", f"asked 4 {clocks[1]} {other[0]}, shown 1 5 {clocks[2]} {other[1]}, end {clocks[3]} {other[2]}"))
        total = bench.profile()[0][3]
        self.ask(
            desk, ("profile", f"u 0.0 1 {total}"), ("listing u", SMALL.replace("body main", f"body main # 0.0 {total}")),
            ("book", ", ".join(f"{word} {0 if word in ('taken', 'wait') else 1}" for word in sorted(WORDS + ("taken", "wait")))))

    def test_failures_and_rooms(self):
        desk = Desk()
        self.ask(desk, ("read\nunit u size 10\nfunction main()\nbody main\n  show 2 3\n  fail 7", "ok"), ("go 100", "ok"))
        self.assertRegex(desk.say("items"), r"^shown 2 3 \d+, failed 7 \d+$")
        self.ask(desk, ("read\nunit u size 10\nfunction main()\nbody main\n  local x number\n  show 2 (3 over x)", "ok"), ("house 8", "ok"), ("go 100", "ok"))
        self.assertRegex(desk.say("items"), r"^failed zero \d+$")
        self.ask(desk, ("read\n" + TWO, "ok"), ("house 8", "ok"), ("go 100", "ok"))
        self.assertRegex(desk.say("items"), r"^failed room \d+$")
        self.ask(desk, ("would u 8", "-"), ("profile", "-"), ("units", "u v"), ("arrange v u", "ok"), ("units", "v u"))

    def test_listing_of_several_labels(self):
        desk = Desk()
        self.ask(desk, ("read\n" + TWO, "ok"), ("make u 8 peel:0.1", "ok"), ("ways u", "8 peel:0.1"))
        row = [line for line in desk.say("listing u").split("\n") if line.startswith("  while")][0]
        self.assertRegex(row, r"^  while \(i < 3\) # 0\.1<0\.1 \d+, 0\.1>0\.1 \d+, 0\.2<0\.1 \d+, 0\.2>0\.1 \d+$")

    def test_books(self):
        desk = Desk()
        self.ask(desk, ("read\n" + SMALL, "ok"))
        for key in WORDS + ("taken", "wait"):
            self.ask(desk, (f"charge {key} 99", "ok"), (f"charge {key} 100", "error badbook"))
            self.assertIn(f"{key} 99", desk.say("book").split(", "))
        self.ask(desk, ("charge set 0", "error badbook"), ("charge taken 0", "ok"), ("charge mark 3", "what"), ("charge point 3", "what"), ("charge 3", "what"))
        self.ask(desk, ("even 0", "error badbeats"), ("even 100", "error badbeats"), ("even 99", "ok"))
        self.assertEqual(desk.say("book"), ", ".join(f"{word} {count}" for word, count in sorted(even_book(99).items())))
        self.ask(desk, ("undo", "ok"))
        self.assertIn("taken 0", desk.say("book"))

    def test_without_a_bench(self):
        lines = (
            "drop u", "make u 3", "make u 3 fold", "arrange u", "house 1", "begin", "begin 1 2", "go 1", "keep u", "back u", "undo", "charge set 1", "even 1",
            "units", "kept", "ways u", "state", "items", "would u 3", "profile", "book", "listing u", "put\n", "put\n" + SMALL, "put\n?")
        desk = Desk()
        for line in lines:
            self.assertEqual(desk.say(line), "empty")
        self.ask(desk, ("read\n", "error badtext 2 1"), ("units", "empty"), ("read\nunit u size 10", "error badtext 2 1"), ("read\nunit u size", "error badtext 1 12"), ("units", "empty"))
        for line in ("", "put", "read", "go", "nothing", "go x", "units u"):
            self.assertEqual(desk.say(line), "what")

    def test_lines_without_a_form(self):
        desk = Desk()
        desk.say("read\n" + SMALL)
        desk.say("keep k")
        before = answers(desk, ["u"])
        wrong = [
            "", " ", "units ", " units", "units u", "Units", "unit", "read", "put", "read ", "read u\n" + SMALL, "put \n" + SMALL, "go 1\n", "units\n", "go\n1",
            "go", "go  1", "go 1 2", "go -1", "go 01", "go +1", "go 1.0", "go x", "go " + "1" * 31, "go \u0661", "go 1\t", "house", "house 1 2", "even", "even x",
            "drop", "drop u v", "drop U", "drop if", "drop abcdefghi", "drop 1", "make", "make u", "make 3 u", "make u 3 ", "make u 3  fold", "make u 3 folds", "make u 3 lay",
            "make u 3 lay:", "make u 3 lay:6.0", "make u x", "make u 03", "arrange", "arrange u  u", "arrange u ", "arrange u if", "begin ", "begin x", "begin 1 ", "begin 1  2",
            "begin 01", "begin " + " ".join(["1"] * 401), "keep", "keep k l", "keep if", "back", "back if", "undo 1", "undo u", "charge", "charge set", "charge 1 set",
            "charge set x", "charge set 1 2", "charge if 3", "kept k", "ways", "ways u u", "ways if", "state 1", "items u", "would", "would u", "would u 3 x", "profile u",
            "book set", "listing", "listing u u", "listing if", "error", "what", "put\r\n" + SMALL, "units\nunits"]
        for line in wrong + [value for value in ODD_VALUES if not isinstance(value, str)] + [["units"], b"units", ("units",), 10 ** 99]:
            self.assertEqual(desk.say(line), "what", line)
        self.assertEqual(answers(desk, ["u"]), before)
        self.ask(desk, ("begin " + " ".join(["1"] * 400), "ok"), ("begin", "ok"), ("begin 0", "ok"), ("go 0", "ok"), ("go " + "1" * 30, "error badsteps"))

    def test_errors(self):
        desk = Desk()
        self.ask(desk, ("read\n" + TWO, "ok"), ("begin 3", "ok"), ("go 30", "ok"), ("keep k", "ok"))
        before = answers(desk)
        pairs = [
            ("drop u", "badprogram"), ("drop v", "badprogram"), ("drop w", "nounit"), ("make w 3", "nounit"), ("make u 2", "badregisters"), ("make u 9", "badregisters"),
            ("make u 3 lay:0.1", "nothere"), ("make u 3 " + " ".join(["fold"] * 41), "badpasses"), ("arrange u", "badorder"), ("arrange u u", "badorder"),
            ("arrange u v w", "badorder"), ("house 7", "badroom"), ("house 20001", "badroom"), ("begin 10000", "badinputs"), ("go 20001", "badsteps"), ("back l", "notkept"),
            ("charge set 0", "badbook"), ("even 100", "badbeats"), ("ways w", "nounit"), ("listing w", "nounit"), ("would w 3", "nounit"), ("would u 9", "badregisters"),
            ("would u 3 lay:0.1", "nothere"), ("put\nunit v size 10\nfunction f()\nbody f", "badprogram"), ("put\n" + W.replace("10", "11"), "badprogram"), ("read\n", "badtext 2 1"),
            ("put\n", "badtext 2 1"), ("put\nunit if", "badtext 1 6"), ("read\n" + SMALL.replace("+", "&"), "badtext 6 13")]
        for line, told in pairs:
            self.assertEqual(desk.say(line), f"error {told}", line)
        shows = "\n".join("  show 1 (1 + 1)" for _ in range(40))
        self.ask(desk, ("put\nunit x size 10\nfunction f()\nbody f\n" + shows, "error toolarge"))
        self.ask(desk, ("read\nunit x size 10\nfunction main()\nbody main\n" + shows, "error toolarge"))
        self.assertEqual(answers(desk), before)
        for _ in range(3):
            self.ask(desk, ("undo", "ok"))
        self.ask(desk, ("undo", "error nothingdone"))

    def test_read_and_put(self):
        desk = Desk()
        self.ask(desk, ("read\n" + TWO, "ok"), ("even 3", "ok"), ("house 100", "ok"), ("put\n" + W, "ok"), ("units", "u v w"), ("drop w", "ok"))
        # a new bench has nothing of the old one
        self.ask(desk, ("read\n" + SMALL + "\n# a remark\n\n", "ok"), ("units", "u"), ("undo", "error nothingdone"))
        self.assertIn("set 1", desk.say("book"))
        fresh = Desk()
        fresh.say("read\n" + SMALL)
        self.assertEqual(answers(desk, ["u"]), answers(fresh, ["u"]))

    def test_too_long(self):
        calls = "\n".join("    call a()" for _ in range(10))
        inner = "\n".join("  call b()" for _ in range(12))
        text = f"unit u size 10\nfunction main()\nfunction a()\nfunction b()\nbody main\n  while yes\n{calls}\nbody a\n{inner}\nbody b"
        words = [f"lay:1.{k}" for k in range(1, 13)] + [f"lay:0.{k}" for k in range(3, 13)]
        desk = Desk()
        self.ask(desk, ("read\n" + text, "ok"), ("make u 8 " + " ".join(words), "ok"), ("go 1700", "ok"), ("profile", "error toolong"), ("would u 8", "error toolong"))
        self.assertRegex(desk.say("state"), "^running 1700 1700$")

    def test_each_deed_as_at_a_bench(self):
        stand = 0
        for seed in range(8):
            dice = dice_of(seed)
            bench, desk, lines = Bench(two()), Desk(), []
            self.assertEqual(desk.say("read\n" + TWO), "ok")
            for _ in range(25):
                deed = deed_by_dice(bench, dice)
                line = line_of(deed, bench.book)
                if line is None:
                    beats = dice.randint(1, 99)
                    deed, line = ("charge", even_book(beats)), f"even {beats}"
                    if dice.random() < 0.5:
                        key = dice.choice(WORDS)
                        deed, line = ("charge", dict(bench.book, **{key: beats})), f"charge {key} {beats}"
                if dice.random() < 0.1 and len(bench):
                    bench.undo()
                    lines.pop()
                    self.assertEqual(desk.say("undo"), "ok")
                    continue
                told = desk.say(line)
                if try_deed(bench, deed):
                    self.assertEqual(told, "ok")
                    lines.append(line)
                    stand += 1
                else:
                    self.assertTrue(told.startswith("error "), line)
                self.ask_state(desk, bench)
            # a desk to which read and the lines of the deeds that stand are said
            fresh = Desk()
            fresh.say("read\n" + TWO)
            for line in lines:
                self.assertEqual(fresh.say(line), "ok")
            self.assertEqual(answers(fresh), answers(desk))
        self.assertGreater(stand, 80)

    def ask_state(self, desk, bench):
        machine = bench.machine()
        self.assertEqual(desk.say("state"), f"{machine.state()} {machine.steps()} {machine.beats()}")
        self.assertEqual(desk.say("units"), " ".join(bench.names))
        self.assertEqual(desk.say("kept"), " ".join(bench.kept) or "-")
        items = [item + (clock,) for item, clock in zip(machine.trace(), machine.clocks()) if item[0] != "label"]
        self.assertEqual(desk.say("items"), ", ".join(" ".join(str(part) for part in item) for item in items) or "-")
        profile = [f"{unit} {label_text(label)} {times} {beats}" for unit, label, times, beats in bench.profile()]
        self.assertEqual(desk.say("profile"), ", ".join(profile) or "-")
        for name in bench.names:
            words, registers = bench.ways(name)
            self.assertEqual(desk.say(f"ways {name}"), " ".join([str(registers)] + passes_text(words).split()))
            unit = [unit for unit in bench.program if unit[0] == name][0]
            listing = desk.say(f"listing {name}")
            # a listing is read as the same unit
            self.assertEqual(token_pairs(listing), token_pairs(unit_text(unit)))
            self.assertEqual([token[3] for token in tokens_of(listing)], [token[3] for token in tokens_of(unit_text(unit))])
            self.assertEqual(unit_of(listing), unit)
            for line, (own, labels) in zip(listing.split("\n"), bench.listing(name)):
                told = ", ".join(f"{label_text(label)} {total}" for label, total in labels)
                self.assertEqual(line, f"{own} # {told}" if labels else own)

    def test_desks_are_alone(self):
        one, other = Desk(), Desk()
        one.say("read\n" + SMALL)
        self.assertEqual(other.say("units"), "empty")
        self.assertFalse(one == other)
        self.assertEqual(len(UNITS), 4)


if __name__ == "__main__":
    unittest.main()
