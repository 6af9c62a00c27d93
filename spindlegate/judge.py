"""The judge: it leads one plain state through a history and finds the first fault."""

from spindlegate.sessions import Sessions
from spindlegate.state import apply_record, new_state
from spindlegate.subsystem import FLUSHED, answer_due

CONNECT = ("connect",)
# The kinds of records that may be refused for lack of room.
REFUSABLE = ("make", "write", "snap", "register", "reserve")


class Course:
    """What the judge keeps while it goes through the rows."""

    def __init__(self, cuts):
        self._cuts = list(cuts)
        self._run = 0
        self._state = new_state()
        self._sessions = Sessions({})
        # The order from which the next run goes on at least, and the states from which it can.
        self._bound = 0
        self._kept = {0: self._state}
        self._before = None

    def fault_of(self, row):
        """Go on by a row; return the word of its first fault, or ""."""
        run, order, host, session, counter, key, command, answer = row
        if run < self._run or run > len(self._cuts):
            return "run"
        if not self.reach_run(run):
            return "cut"
        if not self._is_in_session(host, session, counter, command):
            return "session"
        due, fields = self._due(host, key, command)
        if answer != due and not _may_lack_room(answer, command, fields):
            return "answer"
        if answer != due:
            fields = None
        if order != self._state["order"] + (0 if fields is None else 1):
            return "order"
        self._take(row, fields)
        return ""

    def reach_run(self, run):
        """Begin the next runs up to this one; return False if one of them goes on from an order that it cannot."""
        while self._run < run:
            order = self._cuts[self._run]
            if order < self._bound or order not in self._kept:
                return False
            self._run += 1
            self._state = self._kept[order]
            self._sessions = Sessions(self._state["marks"])
            self._bound = order
            self._kept = {kept: self._kept[kept] for kept in self._kept if kept <= order}
        return True

    def _is_in_session(self, host, session, counter, command):
        if command == CONNECT:
            return counter == 0 and self._sessions.connecting(host, session) == "new"
        return self._sessions.kind_of(host, session, counter) == "next"

    def _due(self, host, key, command):
        """Return the answer that is due to a row, and the fields of its record, None if it adds none."""
        if command == CONNECT:
            told = self._sessions.next_told(host)
            return (("ok", told), (told,))
        return answer_due(self._state, host, key, command, self._state["order"] + 1)

    def _take(self, row, fields):
        """Let a row without a fault take effect."""
        run, order, host, session, counter, _, command, answer = row
        if fields is not None:
            kind = "mark" if command == CONNECT else command[0]
            self._state = apply_record(self._state, (order, kind, host, session, counter, *fields))
            self._kept[order] = self._state
        if command == CONNECT:
            self._sessions.begin(host, session)
        else:
            self._sessions.keep(host, answer)
        # Only a later row of its run shows that a flush came to its end.
        if self._before is not None and self._before[0] == run and _is_flushed(self._before):
            self._bound = max(self._bound, self._before[1])
        self._before = row


def first_fault(rows, cuts):
    """Return the word of the first fault and the index of its row; ("", -1) if there is none."""
    course = Course(cuts)
    for index, row in enumerate(rows):
        word = course.fault_of(row)
        if word != "":
            return (word, index)
    if not course.reach_run(len(cuts)):
        return ("cut", len(rows))
    return ("", -1)


def judge(rows, cuts):
    """Return the word of the first fault, or ""."""
    word, _ = first_fault(rows, cuts)
    return word


def _may_lack_room(answer, command, fields):
    """Return True if a command that would add a record may be answered for lack of room."""
    return answer == ("room", None) and fields is not None and command[0] in REFUSABLE


def _is_flushed(row):
    """Return True if everything up to a row lasts before the row is answered."""
    command, answer = row[6:]
    return command == CONNECT or (answer[0] == "ok" and command[0] in FLUSHED)
