"""A host: it connects, sends one command after the other, and learns what has become of them."""


class Host:
    """One host; its state is "new", "connecting", "idle" or "waiting"."""

    def __init__(self, number):
        self.number = number
        self.session = 0
        self.counter = 0
        self.state = "new"
        # The letter that is under way, which is sent again as it is.
        self._letter = None
        # The last session in which the host was connected, and how many commands it began in it.
        self._connected = 0
        self._begun = 0
        # The last command of that session, as long as it has not ended.
        self._command = None
        self._keys = {}
        self._ended = []
        self._lost = []

    def begin(self, command):
        """Begin to connect, or else begin the command; return the letter to send, or None."""
        if self.state == "new":
            self._begin_session()
        elif self.state == "idle":
            self._begin_command(command)
        else:
            return None
        return self._letter

    def again(self):
        """Return the letter that is under way, or None."""
        return self._letter

    def take(self, letter):
        """Take a letter that belongs to what is under way; return False if it is passed over."""
        if self.state == "connecting":
            return self._take_connecting(letter)
        if self.state == "waiting":
            return self._take_waiting(letter)
        return False

    def key(self, namespace):
        """Return the key that the host keeps for a namespace, or None."""
        return self._keys.get(namespace)

    def ended(self):
        """Return the list of the commands that have ended: tuples (session, counter, command, answer)."""
        return list(self._ended)

    def lost(self):
        """Return the list of the commands that are lost: tuples (session, counter)."""
        return list(self._lost)

    def _begin_session(self):
        self.session += 1
        self.counter = 0
        self.state = "connecting"
        self._letter = ("connect", self.number, self.session)

    def _begin_command(self, command):
        self.counter += 1
        self.state = "waiting"
        self._begun = self.counter
        self._command = command
        self._letter = ("do", self.number, self.session, self.counter, self._key_for(command), command)

    def _key_for(self, command):
        if command[0] in ("make", "register", "flush"):
            return None
        return self.key(command[1])

    def _take_connecting(self, letter):
        match letter:
            case ("connected", host, number, told, _) if (host, number) == (self.number, self.session):
                self._compare(told)
                self._connected = self.session
                self._begun = 0
                self._rest("idle")
                return True
            case ("no", host, number, 0, "old", _) if (host, number) == (self.number, self.session):
                self._begin_session()
                return True
        return False

    def _take_waiting(self, letter):
        present = (self.number, self.session, self.counter)
        match letter:
            case ("answer", host, session, counter, answer, _) if (host, session, counter) == present:
                self._end(answer)
                self._rest("idle")
                return True
            case ("no", host, session, counter, "lost", _) if (host, session, counter) == present:
                self._rest("new")
                return True
        return False

    def _rest(self, state):
        """Go on with nothing under way."""
        self.state = state
        self._letter = None

    def _compare(self, told):
        """Find out which commands of the session before are lost, and how the one without an answer ended."""
        lasting = 0
        if told is not None and told[0] == self._connected:
            lasting = told[1]
        self._lost = self._lost + [(self._connected, counter) for counter in range(lasting + 1, self._begun + 1)]
        if self._command is not None:
            self._end(told[2] if self._begun <= lasting else ("lost", None))

    def _end(self, answer):
        """Note that the last command has ended with this answer."""
        command = self._command
        self._command = None
        self._ended.append((self._connected, self._begun, command, answer))
        if answer[0] != "ok":
            return
        if command[0] == "register":
            self._keys[command[1]] = answer[1]
        elif command[0] in ("leave", "remove"):
            self._keys.pop(command[1], None)
