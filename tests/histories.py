"""Random histories: records as the commands of hosts add them, beside a plain model that is changed in place."""

import random

from spindlegate.records import make_record

HOSTS = (0, 1, 2, 3)


class History:
    """Records of valid commands, one after the other; what they mean is kept in dicts."""

    def __init__(self, seed, namespaces=3, places=4):
        self.random = random.Random(seed)
        self.namespaces = range(1, namespaces + 1)
        self.places = places
        self.records = []
        self.spaces = {}
        self.snaps = {}
        self.marks = {}

    def propose(self):
        """A record that the next command may add; nothing is changed."""
        host = self.random.choice(HOSTS)
        order = len(self.records) + 1
        if host not in self.marks or self.random.random() < 0.05:
            session = self.marks[host][0] + self.random.randint(1, 3) if host in self.marks else 1
            return make_record(order, "mark", host, session, 0, (self.told(host),))
        kind, fields = self.random.choice(self.choices(host, order))
        session, counter = self.marks[host][:2]
        return make_record(order, kind, host, session, counter + self.random.randint(1, 2), fields)

    def told(self, host):
        if host not in self.marks:
            return None
        session, counter, answer, told = self.marks[host]
        return (session, counter, answer) if counter else told

    def choices(self, host, order):
        """Commands on a random namespace, those that are useful more often."""
        namespace = self.random.choice(self.namespaces)
        if namespace not in self.spaces:
            return [("make", (namespace, self.places))]
        space = self.spaces[namespace]
        place = self.random.randrange(space["size"])
        found = [("write", (namespace, place, order * 10))] * 8 + [("trim", (namespace, place))] * 3
        found += [("snap", (namespace,))] * 2 + [("register", (namespace,)), ("remove", (namespace,))]
        found += [("drop", name) for name in self.snaps if name[0] == namespace]
        if host in space["keys"]:
            found += [("leave", (namespace, space["hold"] is not None and space["hold"][0] == host))]
            found += [("reserve", (namespace, way)) for way in ("write", "alone")]
            found += [("preempt", self.preempt(namespace, host, victim)) for victim in space["keys"] if victim != host]
        if space["hold"] is not None:
            found.append(("release", (namespace,)))
        return found

    def preempt(self, namespace, host, victim):
        hold = self.spaces[namespace]["hold"]
        return (namespace, victim, hold[1] if hold is not None and hold[0] == victim else None)

    def take(self, record):
        """Let the record be the next one of the history."""
        order, kind, host, session, counter, *fields = record
        self.records.append(record)
        told = self.marks[host][3] if host in self.marks else None
        answer = ("ok", order) if kind in ("snap", "register") else ("ok", None)
        self.marks[host] = (session, 0, None, fields[0]) if kind == "mark" else (session, counter, answer, told)
        if kind == "make":
            self.spaces[fields[0]] = {"size": fields[1], "cells": {}, "keys": {}, "hold": None}
        elif kind == "remove":
            del self.spaces[fields[0]]
            self.snaps = {name: cells for name, cells in self.snaps.items() if name[0] != fields[0]}
        elif kind != "mark":
            self.change(kind, host, order, self.spaces[fields[0]], fields)

    def change(self, kind, host, order, space, fields):
        """What a record changes in a space that exists."""
        if kind == "write":
            space["cells"][fields[1]] = fields[2]
        elif kind == "trim":
            space["cells"].pop(fields[1], None)
        elif kind == "snap":
            self.snaps[(fields[0], order)] = dict(space["cells"])
        elif kind == "drop":
            del self.snaps[tuple(fields)]
        elif kind == "register":
            space["keys"][host] = order
        elif kind == "leave":
            del space["keys"][host]
            space["hold"] = None if fields[1] else space["hold"]
        elif kind == "preempt":
            del space["keys"][fields[1]]
            space["hold"] = space["hold"] if fields[2] is None else (host, fields[2])
        elif kind == "reserve":
            space["hold"] = (host, fields[1])
        elif kind == "release":
            space["hold"] = None

    def grow(self, count):
        """Take so many random records; returns the history."""
        for _ in range(count):
            self.take(self.propose())
        return self

    def state(self):
        """The state as point [26] describes it, made from the model."""
        spaces = {
            namespace: (space["size"], dict(space["cells"]), (tuple(sorted(space["keys"].items())), space["hold"]))
            for namespace, space in self.spaces.items()
        }
        snaps = {name: dict(cells) for name, cells in self.snaps.items()}
        return {"order": len(self.records), "spaces": spaces, "snaps": snaps, "marks": dict(self.marks)}
