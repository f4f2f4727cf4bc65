"""Prints trees: the text from which they are read again."""


def print_book(book):
    """Returns the printed form of a book."""
    return "\n".join([print_pact(pact) for pact in book])


def print_pact(pact):
    """Returns the printed form of a pact."""
    _, name, parties, body = pact
    words = ["pact", _print_call(name, parties), "end"]
    if body:
        words.insert(2, print_body(body))
    return " ".join(words)


def print_body(body):
    """Returns the printed form of a body."""
    return "; ".join([print_step(step) for step in body])


def print_step(step):
    """Returns the printed form of a step."""
    if step[0] == "letter":
        _, sender, taker, label = step
        return f"{sender} -> {taker}: {label}"
    if step[0] == "use":
        return "use " + _print_call(step[1], step[2])
    if step[0] == "loop":
        return print_braces("loop", [print_body(step[1])])
    return print_braces(step[0], [print_body(body) for body in step[1]])


def print_braces(word, texts):
    """Returns the printed form of a step with braces; texts are the printed forms of its bodies."""
    return word + " {" + " | ".join(texts) + "}"


def _print_call(name, parties):
    return name + "(" + ", ".join(parties) + ")"
