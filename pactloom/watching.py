"""Watches actions one after the other and tells who breaks the protocol."""

from pactloom.alike import run_ahead_of
from pactloom.tables import next_state


class Watch:
    """What was seen of a run of a table so far, and the first breach."""

    def __init__(self, table):
        self.table = table
        self.state = 0
        self.run = []
        self.breach = None

    def see(self, action):
        """Returns None if all that was seen is a run with this action, too, otherwise the breach and its breaker."""
        if self.breach is None:
            state = next_state(self.table, self.state, action)
            if state is None:
                self.breach = ("breach", self._breaker(action))
            else:
                self.state = state
                self.run.append(action)
        return self.breach

    def _breaker(self, action):
        """Returns the first of sender and taker whose machine does not have the action, None if both have it."""
        for party in action[:2]:
            # A machine has an action if it follows some run with the same view; that needs no machine.
            if run_ahead_of(action, self.table, self.run, party) is None:
                return party
        return None

    def seen(self):
        """Returns the list of the actions seen ahead of the breach."""
        return list(self.run)
