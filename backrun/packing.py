"""Plain values as bytes."""

from backrun.errors import PackError
from backrun.forms import is_integer, is_whole
from backrun.programs import NAME_SIGNS

# The first bytes of values, which tell their kinds.
NONE = 0
FALSE = 1
TRUE = 2
NUMBER = 3
BELOW_ZERO = 4
STRING = 5
TUPLE = 6


def pack(value):
    """The list of the bytes of a value."""
    data = []
    waiting = [value]
    while waiting:
        item = waiting.pop()
        if isinstance(item, tuple):
            data.extend([TUPLE] + size_bytes(len(item)))
            waiting.extend(item[::-1])
        else:
            data.extend(single_bytes(item))
    return data


def single_bytes(value):
    """The bytes of a value that is no tuple."""
    if value is None:
        return [NONE]
    if value is False:
        return [FALSE]
    if value is True:
        return [TRUE]
    if is_whole(value):
        return [NUMBER] + size_bytes(value) if value >= 0 else [BELOW_ZERO] + size_bytes(-1 - value)
    if not isinstance(value, str) or not all([sign in NAME_SIGNS for sign in value]):
        raise PackError(-1)
    return [STRING] + size_bytes(len(value)) + [NAME_SIGNS.index(sign) for sign in value]


def size_bytes(n):
    """The bytes of a number from 0: its digits in base 128, the lowest one first, with 128 more on all but the last."""
    data = []
    while n >= 128:
        data.append(n % 128 + 128)
        n //= 128
    return data + [n]


def unpack(data):
    """The value of which these are the bytes."""
    return Unpacking(data).whole()


class Group:
    """A tuple of so many members, some of which have been read."""

    def __init__(self, wanted):
        self.wanted = wanted
        self.members = []

    def lacks_one(self):
        """Whether only one member is still to be read."""
        return len(self.members) + 1 == self.wanted

    def closed(self, last):
        """The tuple with its last member."""
        return tuple(self.members + [last])


class Unpacking:
    """Reads bytes one after the other."""

    def __init__(self, data):
        self.data = data
        self.at = 0

    def take(self, most):
        """The next byte, which must be one from 0 to most."""
        if self.at >= len(self.data) or not is_integer(self.data[self.at], 0, most):
            raise PackError(self.at)
        self.at += 1
        return self.data[self.at - 1]

    def whole(self):
        """The value that all bytes make."""
        # The tuples under way stand on a stack of their own, since they may nest deeper than Python's calls.
        groups = []
        while True:
            kind = self.take(TUPLE)
            count = self.size() if kind == TUPLE else 0
            if count > 0:
                groups.append(Group(count))
                continue
            value = () if kind == TUPLE else self.single(kind)
            while groups and groups[-1].lacks_one():
                value = groups.pop().closed(value)
            if not groups:
                break
            groups[-1].members.append(value)
        if self.at < len(self.data):
            raise PackError(self.at)
        return value

    def single(self, kind):
        """The value of a kind that is no tuple."""
        if kind == NONE:
            return None
        if kind == FALSE or kind == TRUE:
            return kind == TRUE
        if kind == NUMBER:
            return self.size()
        if kind == BELOW_ZERO:
            return -1 - self.size()
        signs = []
        count = self.size()
        while len(signs) < count:
            signs.append(NAME_SIGNS[self.take(len(NAME_SIGNS) - 1)])
        return "".join(signs)

    def size(self):
        """The number from 0 that the next bytes show."""
        number = 0
        shift = 0
        byte = self.take(255)
        while byte >= 128:
            number += (byte - 128) << shift
            shift += 7
            byte = self.take(255)
        if byte == 0 and shift > 0:
            raise PackError(self.at - 1)
        return number + (byte << shift)
