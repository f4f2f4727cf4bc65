"""Searches for the state that is found first."""


def first_found(start, moves_of, is_wanted):
    """Returns the first wanted state that is found from start and the actions that lead there, None if there is none.

    moves_of tells for a state that is not wanted the pairs of an action and the next state. The list of actions is
    one of the shortest, and the least of these if the pairs ascend by the actions.
    """
    met = [(start, None, None)]
    seen = set()
    seen.add(start)
    at = 0
    while at < len(met):
        state = met[at][0]
        if is_wanted(state):
            return state, _actions_to(met, at)
        for action, target in moves_of(state):
            if target not in seen:
                seen.add(target)
                met.append((target, at, action))
        at += 1
    return None


def _actions_to(met, at):
    """Returns the list of the actions by which the state at this place was met."""
    actions = []
    while at > 0:
        _, ahead, action = met[at]
        actions.append(action)
        at = ahead
    actions.reverse()
    return actions
