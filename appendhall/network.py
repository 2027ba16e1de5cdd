"""The network: a bag of messages."""

from appendhall.errors import BadValue, Unknown
from appendhall.messages import is_message


class Network:
    """A network, without messages at first."""

    def __init__(self):
        self.sent = 0
        # The messages by their numbers; as numbers only grow, the keys ascend.
        self._messages = {}

    def send(self, message):
        """Keep a message and return its number."""
        if not is_message(message):
            raise BadValue("this is not a message")
        self.sent += 1
        self._messages[self.sent] = message
        return self.sent

    def message(self, number):
        """Return the message with this number."""
        self._check_number(number)
        return self._messages[number]

    def drop(self, number):
        """Take a message out of the network."""
        self._check_number(number)
        del self._messages[number]

    def numbers(self):
        """Return the numbers of the messages in ascending order."""
        return list(self._messages)

    def __len__(self):
        return len(self._messages)

    def __iter__(self):
        return iter(self._messages)

    def _check_number(self, number):
        if number not in self._messages:
            raise Unknown("there is no message with this number")
