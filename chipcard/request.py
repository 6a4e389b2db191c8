"""The form of a command."""

HEADER_LENGTH = 4
NOTHING = 0
ALL = 256


class Request:
    """A command of an allowed form. No data is an empty list; nothing asked is NOTHING."""

    def __init__(self, header, data, asked):
        self.group = header[0]
        self.instruction = header[1]
        self.first = header[2]
        self.second = header[3]
        self.data = data
        self.asked = asked

    def is_plain(self):
        return self.first == 0 and self.second == 0

    def brings(self, length):
        """Whether so many bytes of data are there, and nothing is asked."""
        return self.asked == NOTHING and len(self.data) == length


def amount(byte):
    if byte == 0:
        return ALL
    return byte


def read_request(given):
    """The request, or None where the bytes have no allowed form."""
    if len(given) < HEADER_LENGTH:
        return None
    header = given[:HEADER_LENGTH]
    body = given[HEADER_LENGTH:]
    if len(body) == 0:
        return Request(header, [], NOTHING)
    if len(body) == 1:
        return Request(header, [], amount(body[0]))
    length = body[0]
    data = body[1:1 + length]
    behind = body[1 + length:]
    if length == 0 or len(data) < length or len(behind) > 1:
        return None
    if len(behind) == 0:
        return Request(header, data, NOTHING)
    return Request(header, data, amount(behind[0]))
