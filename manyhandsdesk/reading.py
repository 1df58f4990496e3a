"""Numbers as bytes, the lowest first: read from front to back, and written."""

from manyhandsdesk.refusals import WrongBytes

LEFT_OVER_RULE = 7


class Reader:
    """Goes through bytes from front to back, and refuses at the first fault."""

    def __init__(self, octets, end_rule):
        self.octets = octets
        self.end_rule = end_rule
        self.at = 0

    def read_octets(self, size):
        """The next bytes, which must all be there."""
        end = self.at + size
        if end > len(self.octets):
            raise WrongBytes(self.end_rule, len(self.octets))
        octets = self.octets[self.at:end]
        self.at = end
        return octets

    def read_number(self, size):
        value = 0
        for octet in reversed(self.read_octets(size)):
            value = value * 256 + octet
        return value

    def read_within(self, size, least, most, rule):
        """A number that breaks the rule, at its first byte, if it is not from least to most."""
        start = self.at
        value = self.read_number(size)
        if value < least or value > most:
            raise WrongBytes(rule, start)
        return value

    def finish(self):
        if self.at < len(self.octets):
            raise WrongBytes(LEFT_OVER_RULE, self.at)


def number_octets(value, size):
    octets = []
    rest = value
    for k in range(size):
        octets.append(rest % 256)
        rest = rest // 256
    return octets
