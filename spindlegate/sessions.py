"""Sessions: which command of a host comes next, and what the host is told of those before.

A mark is a tuple (session, counter, answer, told).
"""

from spindlegate.errors import NotValid


class Sessions:
    """The marks of the hosts, and the sessions that are open, during one run of power."""

    def __init__(self, marks):
        self._marks = {host: marks[host] for host in marks}
        # The hosts that have an open session: one that began in this run of power.
        self._begun = {}

    def mark_of(self, host):
        """Return the mark of a host, or None."""
        return self._marks.get(host)

    def is_open(self, host):
        """Return True if a session of the host is open."""
        return host in self._begun

    def connecting(self, host, number):
        """Return "old", "again" or "new": what a connect with this number is."""
        mark = self.mark_of(host)
        if mark is None or number > mark[0]:
            return "new"
        return "again" if number == mark[0] else "old"

    def next_told(self, host):
        """Return what the host is told if a new session begins now."""
        mark = self.mark_of(host)
        if mark is None:
            return None
        session, counter, answer, told = mark
        return told if counter == 0 else (session, counter, answer)

    def begin(self, host, number):
        """Begin a new session; return what the host is told."""
        if self.connecting(host, number) != "new":
            raise NotValid()
        told = self.next_told(host)
        self._marks[host] = (number, 0, None, told)
        self._begun[host] = True
        return told

    def kind_of(self, host, session, counter):
        """Return "lost", "old", "early", "again" or "next": what a command is."""
        if not self.is_open(host):
            return "lost"
        present, last, _, _ = self._marks[host]
        if session < present or (session == present and counter < last):
            return "old"
        if session > present or counter > last + 1:
            return "early"
        return "again" if counter == last else "next"

    def kept_answer(self, host, session, counter):
        """Return the answer of the last command if it is this one, otherwise None."""
        if not self.is_open(host) or counter == 0:
            return None
        present, last, answer, _ = self._marks[host]
        return answer if (session, counter) == (present, last) else None

    def keep(self, host, answer):
        """Note that the next command of a host was carried out with this answer."""
        if not self.is_open(host):
            raise NotValid()
        session, counter, _, told = self._marks[host]
        self._marks[host] = (session, counter + 1, answer, told)
