"""The grammar of books, told a second time as rules, and a slow way to follow them.

The tests compare the program's reader with it: where does the first token stand that cannot stand there?
"""

RULES = {
    "book": [["pact"], ["book", "pact"]],
    "pact": [["'pact'", "N", "'('", "names", "')'", "body", "'end'"]],
    "names": [["N"], ["names", "','", "N"]],
    "body": [[], ["steps"]],
    "steps": [["step"], ["steps", "';'", "step"]],
    "bodies": [["body"], ["bodies", "'|'", "body"]],
    "step": [
        ["N", "'->'", "N", "':'", "N"],
        ["'choice'", "'{'", "bodies", "'}'"],
        ["'both'", "'{'", "bodies", "'}'"],
        ["'loop'", "'{'", "body", "'}'"],
        ["'use'", "N", "'('", "names", "')'"],
    ],
}


def sign_of(token):
    """How the rules call a token."""
    return "N" if token[0] == "name" else f"'{token[1]}'"


def first_misfit(tokens):
    """The place of the first token that cannot stand where it stands.

    The number of the tokens if they are too few, None if they are a book.
    """
    columns = [grown([("book", tuple(rule), 0, 0) for rule in RULES["book"]], [])]
    for at, token in enumerate(tokens):
        moved = [
            (head, rule, dot + 1, origin)
            for head, rule, dot, origin in columns[at]
            if dot < len(rule) and rule[dot] == sign_of(token)
        ]
        if not moved:
            return at
        columns.append(grown(moved, columns))
    whole = any(head == "book" and dot == len(rule) and origin == 0 for head, rule, dot, origin in columns[-1])
    return None if whole else len(tokens)


def grown(items, columns):
    """All items of a column of which some are known."""
    here = len(columns)
    column = dict.fromkeys(items)
    while True:
        more = {}
        for head, rule, dot, origin in column:
            if dot < len(rule):
                for inner in RULES.get(rule[dot], []):
                    more[rule[dot], tuple(inner), 0, here] = None
                # A body may be empty, and so may be what is passed over at once.
                if rule[dot] in ("body", "bodies"):
                    more[head, rule, dot + 1, origin] = None
            else:
                for above, outer, mark, start in column if origin == here else columns[origin]:
                    if mark < len(outer) and outer[mark] == head:
                        more[above, outer, mark + 1, start] = None
        if all(item in column for item in more):
            return list(column)
        column.update(more)
