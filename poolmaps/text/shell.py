"""A shell: lines of words that work with a desk."""

from poolmaps.desk.desk import Desk
from poolmaps.errors import (
    InvalidName, InvalidNumber, InvalidOperation, InvalidPool, InvalidTask, NothingToUndo, ParseError, Refused,
    TooMany, UnknownName,
)
from poolmaps.text.commands import command_told, done
from poolmaps.text.texts import write_claim


class Shell:
    """A desk with commands. It raises no errors."""

    def __init__(self):
        self._desk = Desk()
        self._answered = []

    def answer(self, line):
        """The answer to a command."""
        told = command_told(line)
        if told is None:
            return "what"
        try:
            text = done(self._desk, told)
        except InvalidName:
            return "name"
        except UnknownName:
            return "unknown"
        except (InvalidOperation, InvalidPool, InvalidTask):
            return "operation"
        except ParseError:
            return "text"
        except InvalidNumber:
            return "number"
        except NothingToUndo:
            return "undo"
        except TooMany as excess:
            return f"many {excess.limit}"
        except Refused as refused:
            return f"refused {write_claim(refused.claim)}"
        self._answered.append(True)
        return text

    def desk(self):
        """A twin of the desk."""
        return self._desk.twin()

    def __call__(self, line):
        return self.answer(line)

    def __len__(self):
        return len(self._answered)
