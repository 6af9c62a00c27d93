"""A world: hosts, their paths, and a subsystem over a flash, played act by act."""

from spindlegate.bounds import is_between
from spindlegate.errors import NotValid, PowerOff
from spindlegate.flash import Flash
from spindlegate.hosts import Host
from spindlegate.paths import Path
from spindlegate.records import HOSTS
from spindlegate.store import Store
from spindlegate.subsystem import Subsystem


class World:
    """A subsystem with its flash, and hosts with two paths each."""

    def __init__(self, blocks, hosts):
        if not is_between(hosts, 1, HOSTS):
            raise NotValid()
        self.flash = Flash(blocks)
        self.store = Store(self.flash)
        self.hosts = [Host(number) for number in range(hosts)]
        self._paths = [(Path(), Path()) for _ in range(hosts)]
        self._subsystem = Subsystem(self.store, 0)
        # The rows of the runs before the present one, and where each run but the first went on.
        self._past = []
        self._cuts = []

    def play(self, acts):
        """Play a list of acts; return for each one whether it changed something."""
        return [self._play_act(act) for act in acts]

    def history(self):
        """Return the list of the rows of all runs, each with the number of its run in front."""
        return self._past + [(self._subsystem.run, *row) for row in self._subsystem.rows()]

    def cuts(self):
        """Return the list of the orders from which the runs 1, 2, .. went on."""
        return list(self._cuts)

    def state(self):
        """Return the state as the subsystem shows it, or None while the power is off."""
        return self.store.state if self._has_power() else None

    def _play_act(self, act):
        match act:
            case ("begin", host, path, command):
                return _sent(self._path(host, path), self._host(host).begin(command))
            case ("again", host, path):
                return _sent(self._path(host, path), self._host(host).again())
            case ("arrive", host, path, index):
                return self._arrive(self._path(host, path), index)
            case ("answer", host, path, index):
                return _answered(self._path(host, path), index, self._host(host))
            case ("drop", host, path, index, to_host):
                return self._path(host, path).drop(index, to_host)
            case ("double", host, path, index, to_host):
                return self._path(host, path).double(index, to_host)
            case ("up", host, path):
                return _turned(self._path(host, path), True)
            case ("down", host, path):
                return _turned(self._path(host, path), False)
            case ("flush",):
                return self._flush()
            case ("fail", count):
                self.flash.fail_after(count)
                return True
            case ("cut", choice):
                return self._cut(choice)

    def _host(self, host):
        return self.hosts[host % len(self.hosts)]

    def _path(self, host, path):
        return self._paths[host % len(self._paths)][path % 2]

    def _has_power(self):
        try:
            self.flash.read(0, 0)
        except PowerOff:
            return False
        return True

    def _arrive(self, path, index):
        """Deliver a letter to the subsystem, and send its answer by the same path."""
        letter = path.deliver(index, False) if self._has_power() else None
        if letter is None:
            return False
        try:
            answer = self._subsystem.carry_out(letter)
        except PowerOff:
            return True
        path.send(answer, True)
        return True

    def _flush(self):
        if not self._has_power() or not self.store.waiting:
            return False
        try:
            self.store.flush()
        except PowerOff:
            # The power is off now, so that the act has changed something.
            return True
        return True

    def _cut(self, choice):
        """Cut the power, and begin the next run with what the flash holds."""
        self.flash.cut(choice)
        self._past = self.history()
        self.store = Store(self.flash)
        self._subsystem = Subsystem(self.store, self._subsystem.run + 1)
        self._cuts.append(self.store.state["order"])
        return True


def _sent(path, letter):
    """Send a letter to the subsystem; return False if there is none."""
    if letter is None:
        return False
    path.send(letter, False)
    return True


def _answered(path, index, host):
    """Deliver a letter to the host; return False if there is none."""
    letter = path.deliver(index, True)
    if letter is None:
        return False
    # That a letter was delivered counts, also if the host passes it over.
    host.take(letter)
    return True


def _turned(path, up):
    """Let a path be up or down; return False if it is so already."""
    if path.up == up:
        return False
    path.set_up(up)
    return True
