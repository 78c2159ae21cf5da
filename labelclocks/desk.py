"""A desk: a bench that is worked at by lines of text."""

from labelclocks.answers import ACTIONS, DONE
from labelclocks.bench import Bench
from labelclocks.errors import BadText, ClockError
from labelclocks.readtexts import program_of, unit_of
from labelclocks.sayings import TEXT_WORDS, parts_of


class Desk:
    """A desk, at first without a bench."""

    def __init__(self):
        # None as long as there is none
        self.worked_at = None

    def say(self, line):
        """The answer to a line."""
        parts = parts_of(line)
        if parts is None:
            return "what"
        if self.worked_at is None and parts[0] != "read":
            return "empty"
        try:
            return self._answer(parts[0], parts[1:])
        except BadText as wrong:
            return f"error badtext {wrong.line} {wrong.column}"
        except ClockError as why:
            return "error " + type(why).__name__.lower()

    def _answer(self, word, told):
        """The answer to a line that has a form."""
        if word not in TEXT_WORDS:
            action = ACTIONS[word]
            return action(self.worked_at, told)
        if word == "read":
            self.worked_at = Bench(program_of(told[0]))
        else:
            self.worked_at.put(unit_of(told[0]))
        return DONE
