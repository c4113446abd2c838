"""The network: a bag of messages (point 7.3 of the document)."""

from ringheld.errors import BadValue, Unknown
from ringheld.messages import is_message


class Network:
    """A network. Numbers only ascend, so the dict from numbers to messages has its keys in ascending order."""

    def __init__(self):
        self.sent = 0
        self._messages = {}

    def __len__(self):
        return len(self._messages)

    def __iter__(self):
        return iter(self._messages)

    def send(self, message):
        """Put a message into the bag and return its number. Raise BadValue if it is not a message."""
        if not is_message(message):
            raise BadValue("this is no message")
        self.sent += 1
        self._messages[self.sent] = message
        return self.sent

    def message(self, number):
        """Return the message with this number. Raise Unknown if it is not in the bag."""
        if number not in self._messages:
            raise Unknown("there is no such message")
        return self._messages[number]

    def drop(self, number):
        """Take the message with this number out of the bag. Raise Unknown if it is not in the bag."""
        if number not in self._messages:
            raise Unknown("there is no such message")
        del self._messages[number]

    def numbers(self):
        """Return the ascending list of the numbers of the messages in the bag."""
        return list(self._messages)
