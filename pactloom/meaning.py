"""What the bodies without uses mean: their runs, and what is left of them behind an action."""

from pactloom.printing import print_body, print_braces, print_step


def may_end(body):
    """Tells whether the empty list is a complete run of the body."""
    for step in body:
        if not _may_be_passed_over(step):
            return False
    return True


def _may_be_passed_over(step):
    if step[0] == "letter":
        return False
    if step[0] == "loop":
        return True
    if step[0] == "choice":
        return any([may_end(body) for body in step[1]])
    return all([may_end(body) for body in step[1]])


def steps_of(body):
    """Returns the list of the pairs of a first action and a rest."""
    return [(action, rest) for action, _, rest in printed_steps_of(body)]


def printed_steps_of(body):
    """Returns the triples of a first action, the printed form of a rest and the rest, in their order."""
    rests = {}
    for action, text, rest in _firsts_of_body(body):
        rests[action, text] = rest
    return [(action, text, rests[action, text]) for action, text in sorted(rests)]


# The functions below return the triples in any order, and some of them twice. They put the printed form of a
# rest together from printed parts, as printing each rest anew would take far longer than finding it.


def _firsts_of_body(body):
    texts = [print_step(step) for step in body]
    firsts = []
    for at, step in enumerate(body):
        behind = body[at + 1:]
        text_behind = "; ".join(texts[at + 1:])
        for action, text, rest in _firsts_of_step(step, texts[at]):
            firsts.append((action, _join_texts(text, text_behind), rest + behind))
        if not _may_be_passed_over(step):
            break
    return firsts


def _join_texts(text, behind):
    if text and behind:
        return text + "; " + behind
    return text + behind


def _firsts_of_step(step, text):
    if step[0] == "letter":
        return [(step[1:], "", ())]
    if step[0] == "loop":
        return [(action, _join_texts(first, text), rest + (step,)) for action, first, rest in _firsts_of_body(step[1])]
    if step[0] == "choice":
        firsts = []
        for body in step[1]:
            firsts.extend(_firsts_of_body(body))
        return firsts
    return _firsts_of_both(step[1])


def _firsts_of_both(bodies):
    texts = [print_body(body) for body in bodies]
    firsts = []
    for at, body in enumerate(bodies):
        for action, text, rest in _firsts_of_body(body):
            left = bodies[:at] + (rest,) + bodies[at + 1:]
            texts_left = texts[:at] + [text] + texts[at + 1:]
            firsts.append((action, _print_both(texts_left), _both_of(left)))
    return firsts


def _both_of(bodies):
    left = tuple([body for body in bodies if body])
    if not left:
        return ()
    if len(left) == 1:
        return left[0]
    return (("both", left),)


def _print_both(texts):
    # Only an empty body is printed as nothing, so these are the texts of the bodies left.
    left = [text for text in texts if text]
    if len(left) > 1:
        return print_braces("both", left)
    return "".join(left)


def is_run(body, actions):
    """Tells whether the list of actions is a run of the body."""
    return _leads_on(body, actions, False)


def is_complete(body, actions):
    """Tells whether the list of actions is a complete run of the body."""
    return _leads_on(body, actions, True)


def _leads_on(body, actions, to_an_end):
    """Tells whether the actions lead to some rest, or to some rest that may end."""
    seen = set()
    waiting = [(0, body)]
    while waiting:
        done, rest = waiting.pop()
        if done == len(actions):
            if may_end(rest) or not to_an_end:
                return True
            continue
        for action, text, left in _firsts_of_body(rest):
            # The same rest behind as many actions leads to nothing new.
            if action == actions[done] and (done + 1, text) not in seen:
                seen.add((done + 1, text))
                waiting.append((done + 1, left))
    return False
