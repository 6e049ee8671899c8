"""What texts are made of: lists, webs, rows, views, nodes; and the plain values that such texts tell.

What reads a text here may tell a value of no use, with None in it. The caller checks the value, and that
its text is the text that was read.
"""

MAX_DIGITS = 60


def list_text(members):
    """The members with single blanks, or a sign for none."""
    return " ".join([str(member) for member in members]) if members else "-"


def listed(text):
    """The parts of a list."""
    return [] if text == "-" else text.split(" ")


def number_told(text):
    """The integer of at most sixty digits that the text tells, or None."""
    if not text.isdecimal() or len(text) > MAX_DIGITS:
        return None
    return int(text)


def numbers_told(text):
    """The tuple of the integers that a list tells."""
    return tuple([number_told(part) for part in listed(text)])


def signal_text(others, mark):
    """The text of a signal: the others that are heard, and a mark that is not 0."""
    heard = "".join([str(other) for other in others]) if others else "-"
    return f"{heard}:{mark}" if mark > 0 else heard


def signal_told(text):
    """The pair of the others that are heard and the mark."""
    heard, _, mark = text.partition(":")
    others = () if heard == "-" else tuple([number_told(figure) for figure in heard])
    return (others, number_told(mark) if mark else 0)


def web_text(heard, marks):
    """The text of a web."""
    return " ".join([signal_text(others, mark) for others, mark in zip(heard, marks)])


def web_told(text):
    """The pair of who hears whom and the marks."""
    signals = [signal_told(part) for part in text.split(" ")]
    return (tuple([others for others, _ in signals]), tuple([mark for _, mark in signals]))


def rights_text(row, rights):
    """The text of a row of a task."""
    told = " , ".join([list_text(right) for right in rights])
    return f"{list_text(row)} = {told}"


def rights_told(text):
    """The pair of a row and its right output rows."""
    row, _, rights = text.partition(" = ")
    return (numbers_told(row), tuple([numbers_told(right) for right in rights.split(" , ")]))


def pair_text(pair, sign):
    """The text of a pair of integers with a sign between them."""
    return f"{pair[0]}{sign}{pair[1]}"


def pair_told(text, sign):
    """The pair of integers with a sign between them."""
    first, _, second = text.partition(sign)
    return (number_told(first), number_told(second))


def view_text(view):
    """The text of a view."""
    return " ".join([str(view[0]), str(view[1]), *[pair_text(pair, "=") for pair in view[2]]])


def view_told(text):
    """The view of a text."""
    parts = text.split(" ")
    if len(parts) < 2:
        return None
    return (number_told(parts[0]), number_told(parts[1]), tuple([pair_told(part, "=") for part in parts[2:]]))


def node_text(node):
    """The text of a node of a tree."""
    if node[0] == "stop":
        return f"stop {list_text(node[1])} | {list_text(node[2])}"
    branches = " ".join([pair_text(pair, ":") for pair in node[2]])
    return f"ask {view_text(node[1])} > {branches}"


def node_told(text):
    """The node of a text."""
    word, _, told = text.partition(" ")
    if word == "stop":
        row, _, rounds = told.partition(" | ")
        return ("stop", numbers_told(row), numbers_told(rounds))
    view, _, branches = told.partition(" > ")
    return (word, view_told(view), tuple([pair_told(part, ":") for part in branches.split(" ")]))


def entry_text(view, output):
    """The text of a view and its output."""
    return f"{view_text(view)} > {output}"


def entry_told(text):
    """The pair of a view and its output."""
    view, _, output = text.partition(" > ")
    return (view_told(view), number_told(output))
