"""A plain subsystem: what the points say, over dicts that are changed in place, without a flash."""

from copy import deepcopy

FLUSHED = ("leave", "register", "reserve", "release", "preempt", "flush")


class Space:
    def __init__(self, size):
        self.size = size
        self.cells = {}
        self.snaps = {}
        self.keys = {}
        self.holder = None
        self.way = None


class Plain:
    """Answers letters as points [36] to [53] say; whether there is room is asked of somebody else."""

    def __init__(self):
        self.run = -1
        self.order = 0
        self.spaces = {}
        # The marks that the records tell.
        self.marks = {}
        # What there was at each order.
        self.moments = {}
        self.waiting = 0
        self.rows = []
        self.note_moment()
        self.go_on(0)

    def note_moment(self):
        self.moments[self.order] = deepcopy((self.spaces, self.marks))

    def go_on(self, order):
        """The power was cut, and the next run goes on from this order."""
        self.run += 1
        self.order = order
        self.spaces, self.marks = deepcopy(self.moments[order])
        self.moments = {at: moment for at, moment in self.moments.items() if at <= order}
        self.known = dict(self.marks)
        self.open_hosts = set()
        self.behind = {}
        self.waiting = 0

    def state(self):
        """The state as point [26] describes it."""
        spaces = {
            namespace: (space.size, dict(space.cells), (tuple(sorted(space.keys.items())),
                                                        space.holder and (space.holder[0], space.way)))
            for namespace, space in self.spaces.items()
        }
        snaps = {(namespace, number): dict(cells) for namespace, space in self.spaces.items()
                 for number, cells in space.snaps.items()}
        return {"order": self.order, "spaces": spaces, "snaps": snaps, "marks": dict(self.marks)}

    def add_record(self):
        self.order += 1
        self.waiting = self.waiting + 1 if self.waiting < 8 else 1

    def told(self, host):
        if host not in self.known:
            return None
        session, counter, answer, told = self.known[host]
        return (session, counter, answer) if counter > 0 else told

    def connect(self, host, number):
        if host in self.known and number < self.known[host][0]:
            return ("no", host, number, 0, "old", self.run)
        if host not in self.known or number > self.known[host][0]:
            told = self.told(host)
            self.known[host] = self.marks[host] = (number, 0, None, told)
            self.open_hosts.add(host)
            self.add_record()
            self.note_moment()
            self.rows.append((self.run, self.order, host, number, 0, None, ("connect",), ("ok", told)))
            self.waiting = 0
        return ("connected", host, number, self.known[host][3], self.order)

    def word(self, host, session, counter):
        if host not in self.open_hosts:
            return "lost"
        present, last = self.known[host][:2]
        if (session, counter) < (present, last):
            return "old"
        if (session, counter) == (present, last):
            return "again"
        return "next" if (session, counter) == (present, last + 1) else "early"

    def do(self, host, session, counter, key, command, has_room):
        word = self.word(host, session, counter)
        if word in ("lost", "old", "early"):
            return ("no", host, session, counter, word, self.run)
        if word == "next":
            answer = self.carry_out(host, session, counter, key, command, has_room)
            self.known[host] = (session, counter, answer, self.known[host][3])
            self.behind[host] = self.order
            self.rows.append((self.run, self.order, host, session, counter, key, command, answer))
            if answer[0] == "ok" and command[0] in FLUSHED:
                self.waiting = 0
        return ("answer", host, session, counter, self.known[host][2], self.behind[host])

    def carry_out(self, host, session, counter, key, command, has_room):
        word = self.refusal(host, key, command)
        if word:
            return (word, None)
        if not self.adds(host, command):
            return ("ok", self.unchanged_value(host, command))
        if not has_room:
            return ("room", None)
        self.add_record()
        getattr(self, "do_" + command[0])(host, *command[1:])
        answer = ("ok", self.order if command[0] in ("snap", "register") else None)
        self.marks[host] = (session, counter, answer, self.marks[host][3])
        self.note_moment()
        return answer

    def refusal(self, host, key, command):
        word, *fields = command
        if word == "flush":
            return ""
        space = self.spaces.get(fields[0])
        if word == "make":
            return "exists" if space else ""
        if space is None:
            return "none"
        fenced = self.fence_refusal(space, host, key, word, fields)
        if fenced:
            return fenced
        if word in ("view", "drop") and fields[1] not in space.snaps:
            return "none"
        place = {"write": 1, "trim": 1, "read": 1, "view": 2}.get(word)
        if place and fields[place] >= space.size:
            return "place"
        return "held" if word == "remove" and space.snaps else ""

    def fence_refusal(self, space, host, key, word, fields):
        reads = word in ("read", "view")
        mine = space.keys.get(host)
        if key is not None and key != mine:
            return "conflict"
        if key is None and word != "register" and (mine is not None or (space.keys and not reads)):
            return "conflict"
        others = space.holder is not None and space.holder[0] != host
        if others and (word in ("write", "trim", "snap", "drop", "remove") or (reads and space.way == "alone")):
            return "conflict"
        if word in ("leave", "reserve", "release", "preempt") and mine is None:
            return "conflict"
        if word == "reserve" and space.holder is not None and (others or space.way != fields[1]):
            return "conflict"
        if word == "release" and (space.holder is None or others):
            return "conflict"
        if word == "preempt" and fields[1] == host:
            return "conflict"
        return "none" if word == "preempt" and fields[1] not in space.keys else ""

    def adds(self, host, command):
        word, *fields = command
        if word in ("read", "view", "flush"):
            return False
        if word == "trim":
            return fields[1] in self.spaces[fields[0]].cells
        if word == "register":
            return host not in self.spaces[fields[0]].keys
        if word == "reserve":
            return self.spaces[fields[0]].holder is None
        return True

    def unchanged_value(self, host, command):
        word, *fields = command
        if word == "read":
            return self.spaces[fields[0]].cells.get(fields[1])
        if word == "view":
            return self.spaces[fields[0]].snaps[fields[1]].get(fields[2])
        return self.spaces[fields[0]].keys[host] if word == "register" else None

    def do_make(self, host, namespace, size):
        self.spaces[namespace] = Space(size)

    def do_remove(self, host, namespace):
        del self.spaces[namespace]

    def do_write(self, host, namespace, place, value):
        self.spaces[namespace].cells[place] = value

    def do_trim(self, host, namespace, place):
        del self.spaces[namespace].cells[place]

    def do_snap(self, host, namespace):
        self.spaces[namespace].snaps[self.order] = dict(self.spaces[namespace].cells)

    def do_drop(self, host, namespace, snapshot):
        del self.spaces[namespace].snaps[snapshot]

    def do_register(self, host, namespace):
        self.spaces[namespace].keys[host] = self.order

    def do_leave(self, host, namespace):
        space = self.spaces[namespace]
        del space.keys[host]
        if space.holder == (host,):
            space.holder = space.way = None

    def do_reserve(self, host, namespace, way):
        self.spaces[namespace].holder, self.spaces[namespace].way = (host,), way

    def do_release(self, host, namespace):
        self.spaces[namespace].holder = self.spaces[namespace].way = None

    def do_preempt(self, host, namespace, victim):
        space = self.spaces[namespace]
        del space.keys[victim]
        if space.holder == (victim,):
            space.holder = (host,)
