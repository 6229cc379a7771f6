"""The interface: a list of calls on one new mobile, and the list of their answers."""

from hungmobile.hanging import Mobile


class Reader:
    """Takes numbers and rows off a list, one behind another; the list stays as it is."""

    def __init__(self, calls):
        self.calls = calls
        self.place = 0

    def has_more(self):
        """Whether numbers are left to be taken."""
        return self.place < len(self.calls)

    def take(self):
        """The next number."""
        number = self.calls[self.place]
        self.place += 1
        return number

    def take_row(self):
        """The next row, a list of its own, which stands behind how many numbers it has."""
        length = self.take()
        row = self.calls[self.place:self.place + length]
        self.place += length
        return row


def answers(calls):
    """The answers to the calls, one behind another, each behind how many numbers it has."""
    reader = Reader(calls)
    mobile = Mobile()
    given = []
    while reader.has_more():
        answer = answer_next(mobile, reader)
        given.append(len(answer))
        given.extend(answer)
    return given


def answer_next(mobile, reader):
    """What the mobile answers to the reader's next call."""
    call = reader.take()
    if call == 0:
        return mobile.begins(reader.take_row())
    if call == 1:
        hook = reader.take()
        weight = reader.take()
        return mobile.hang(hook, weight)
    if call == 2:
        rod = reader.take()
        left = reader.take()
        right = reader.take()
        return mobile.arms(rod, left, right)
    if call == 5:
        return mobile.scale(reader.take())
    if call == 9:
        others = reader.take()
        return mobile.ways(others, reader.take_row())
    if call == 10:
        return mobile.missing(reader.take())
    return answer_bare(mobile, call)


def answer_bare(mobile, call):
    """What the mobile answers to a call with which nothing is handed over."""
    if call == 3:
        return mobile.pulls()
    if call == 4:
        return mobile.least()
    if call == 6:
        return mobile.up()
    if call == 7:
        return mobile.mend()
    if call == 8:
        return mobile.wants()
    if call == 11:
        return mobile.state()
    raise KeyError(f"there is no call {call}")
