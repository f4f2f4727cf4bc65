"""Tidies bodies: fewer steps with the same runs."""


def tidy(body):
    """Returns the tidied body."""
    tidied = []
    for step in body:
        tidied.extend(_tidy_step(step))
    return tuple(tidied)


def _tidy_step(step):
    """Returns the body that stands in place of a step."""
    if step[0] == "loop":
        return _loop_of(tidy(step[1]))
    if step[0] == "choice":
        return _choice_of([tidy(body) for body in step[1]])
    if step[0] == "both":
        return _both_of([tidy(body) for body in step[1]])
    return (step,)


def _loop_of(body):
    if body == () or _is_one(body, "loop"):
        return body
    return (("loop", body),)


def _choice_of(bodies):
    left = []
    for body in _unwrapped(bodies, "choice"):
        if body not in left:
            left.append(body)
    if len(left) == 1:
        return left[0]
    return (("choice", tuple(left)),)


def _both_of(bodies):
    left = [body for body in _unwrapped(bodies, "both") if body]
    if not left:
        return ()
    if len(left) == 1:
        return left[0]
    return (("both", tuple(left)),)


def _unwrapped(bodies, kind):
    """Returns the list of the bodies, each that is one step of this kind replaced by the bodies of the step."""
    unwrapped = []
    for body in bodies:
        unwrapped.extend(body[0][1] if _is_one(body, kind) else [body])
    return unwrapped


def _is_one(body, kind):
    """Tells whether the body is one step of this kind and nothing else."""
    return len(body) == 1 and body[0][0] == kind
