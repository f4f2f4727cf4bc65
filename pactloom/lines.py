"""Lines of texts, and the actions that they tell."""

from pactloom.printing import print_step
from pactloom.tokens import ARROW, DIGITS, LETTERS, LONGEST_NAME


def text_of(lines):
    """Returns the text of these lines, each with its newline."""
    return "".join([line + "\n" for line in lines])


def lines_of(text):
    """Returns the list of the whole lines of a text, and what stands behind the last newline."""
    *lines, rest = text.split("\n")
    return lines, rest


def print_action(action):
    """Returns the text of an action."""
    return print_step(("letter", *action))


def action_of(text):
    """Returns the action that a text tells, None if it tells none."""
    parts = text.split(" ")
    if len(parts) != 4:
        return None
    sender, arrow, taker, label = parts
    action = (sender, taker.removesuffix(":"), label)
    if arrow != ARROW or not taker.endswith(":") or sender == action[1]:
        return None
    if not is_name(sender) or not is_name(action[1]) or not _is_label(label):
        return None
    return action


def _is_label(text):
    """Tells whether a text is a label, which may be two names with a dot between."""
    names = text.split(".")
    return len(names) <= 2 and all([is_name(name) for name in names])


def is_name(text):
    """Tells whether a text is a name or one of the words of the language."""
    if text == "" or len(text) > LONGEST_NAME or text[0] not in LETTERS:
        return False
    return all([sign in LETTERS or sign in DIGITS for sign in text])
