"""The network: messages under way between a server and its devices (point 9.3)."""


class Network:
    """A network without messages at first."""

    def __init__(self, server, devices):
        self._server = server
        # The list may be changed later; the devices themselves are the very ones that were passed.
        self._devices = list(devices)
        self._messages = []

    def send(self, number):
        """Takes up the outgoing request of a device; True if there was one."""
        request = self._devices[number].outgoing()
        if request is None:
            return False
        self._messages.append(request)
        return True

    def deliver(self, place):
        """Gives the message at this place to the server or the device for which it is."""
        message = self._messages.pop(place)
        if message[0] == "answer" or message[0] == "feed":
            self._devices[message[1]].receive(message)
            return
        reply = self._server.receive(message)
        if reply is not None:
            self._messages.append(reply)

    def lose(self, place):
        """Takes the message at this place off the list."""
        self._messages.pop(place)

    def repeat(self, place):
        """Puts a copy of the message at this place at the end of the list."""
        self._messages.append(self._messages[place])

    def messages(self):
        """The list of the messages under way, as a new list."""
        return list(self._messages)
