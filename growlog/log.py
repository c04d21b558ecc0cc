"""The log, and a list of calls on a new one."""

BEGIN = 0
ADD = 1
SIZE = 2

MOST_BYTES = 65536
MOST_ENTRIES = 8192

TOO_LONG = -1
FULL = -2


class UnknownCall(ValueError):
    pass


# Each method gives back the list of numbers that its call answers.
class Log:
    def __init__(self):
        self.entries = []

    def begin(self):
        self.entries = []
        return [0]

    def add(self, entry):
        # The document puts -1 ahead of -2, so the length is asked first.
        if len(entry) > MOST_BYTES:
            return [TOO_LONG]
        if len(self.entries) >= MOST_ENTRIES:
            return [FULL]
        # A copy, so that no later change of the caller's list reaches the log.
        self.entries.append(list(entry))
        return [len(self.entries) - 1]

    def size(self):
        return [len(self.entries)]


def answers(calls):
    log = Log()
    given = []
    place = 0
    while place < len(calls):
        answer = answer_at(log, calls, place)
        given.append(len(answer))
        given.extend(answer)
        place = place + call_length(calls, place)
    return given


def answer_at(log, calls, place):
    call = calls[place]
    if call == BEGIN:
        return log.begin()
    if call == ADD:
        return log.add(entry_at(calls, place))
    if call == SIZE:
        return log.size()
    # How far an unknown call reaches can't be told, so what follows can't be read.
    raise UnknownCall(f"no such call: {call}")


def entry_at(calls, place):
    start = place + 2
    return calls[start:start + calls[place + 1]]


def call_length(calls, place):
    if calls[place] == ADD:
        return 2 + calls[place + 1]
    return 1
