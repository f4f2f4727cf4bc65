"""The records of journals."""

KINDS = ("p", "k", "g", "t", "r")
SUMMARY_KINDS = ("a", "n", "y", "x", "w", "z")
DIGITS = "0123456789"
MOST_DIGITS = 9


def record(kind, other, label, number):
    """Returns the text of a record."""
    head = f"{kind} {other} {label} {number} "
    return head + str(_sum_of(head)) + "\n"


def _sum_of(head):
    total = 7
    for sign in head:
        total = (31 * total + ord(sign)) % 9973
    return total


def read_records(text):
    """Returns the list of the records at the beginning of a text: tuples of kind, other, label and number."""
    records = []
    parts, behind = _first_record(text, 0)
    while parts is not None:
        records.append(parts)
        parts, behind = _first_record(text, behind)
    return records


def _first_record(text, at):
    """Returns the parts of the record that begins at this place, or None, and the place behind it."""
    end = _behind_spaces(text, at, 4)
    if end is None:
        return None, at
    kind, other, label, digits, _ = text[at:end].split(" ")
    if kind not in KINDS and kind not in SUMMARY_KINDS:
        return None, at
    if not other or not label or not _is_number(digits):
        return None, at
    written = record(kind, other, label, int(digits))
    if not text.startswith(written, at):
        return None, at
    return (kind, other, label, int(digits)), at + len(written)


def _behind_spaces(text, at, many):
    """Returns the place behind so many spaces, None if there are fewer."""
    for _ in range(many):
        at = text.find(" ", at) + 1
        if at == 0:
            return None
    return at


def _is_number(digits):
    """Tells whether this is a number from 1 on without needless zeros, and not too long."""
    if digits == "" or len(digits) > MOST_DIGITS or digits[0] == "0":
        return False
    return all([sign in DIGITS for sign in digits])
