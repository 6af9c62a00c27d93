"""A path between a host and the subsystem: the letters that are on their way, which may be lost, doubled or late."""


class Path:
    """The letters on their way in both directions, in the order in which they were sent."""

    def __init__(self):
        self.up = True
        self._to_host = []
        self._to_subsystem = []

    def send(self, letter, to_host):
        """Add a letter, also if the path is down."""
        self._direction(to_host).append(letter)

    def letters(self, to_host):
        """Return the list of the letters on their way."""
        return list(self._direction(to_host))

    def deliver(self, index, to_host):
        """Remove a letter and return it; None if there is no letter or the path is down."""
        letters = self._direction(to_host)
        if not self.up or not letters:
            return None
        return letters.pop(index % len(letters))

    def drop(self, index, to_host):
        """Remove a letter, also if the path is down; return True if there was one."""
        letters = self._direction(to_host)
        if not letters:
            return False
        letters.pop(index % len(letters))
        return True

    def double(self, index, to_host):
        """Add an equal letter at the end, also if the path is down; return True if there was one."""
        letters = self._direction(to_host)
        if not letters:
            return False
        letters.append(letters[index % len(letters)])
        return True

    def set_up(self, up):
        """Let the path be up (True) or down (False)."""
        self.up = up

    def _direction(self, to_host):
        return self._to_host if to_host else self._to_subsystem
