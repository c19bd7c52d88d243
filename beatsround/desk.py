"""The desk: reads the calls from one list of numbers and writes their answers into another."""

from beatsround.arguments import Arguments


class Reader:
    """Walks through the list of the calls, which itself stays as it is."""

    def __init__(self, numbers):
        self.numbers = numbers
        self.place = 0

    def has_more(self):
        return self.place < len(self.numbers)

    def take(self):
        number = self.numbers[self.place]
        self.place = self.place + 1
        return number

    def take_row(self):
        count = self.take()
        return [self.take() for step in range(count)]


def call_begin(arguments, reader):
    return arguments.begin()


def call_set(arguments, reader):
    return arguments.put(reader.take_row())


def call_turn(arguments, reader):
    a = reader.take()
    b = reader.take()
    on = reader.take()
    return arguments.turn(a, b, on)


def call_sets(arguments, reader):
    kind = reader.take()
    most = reader.take()
    return arguments.sets(kind, most)


def call_is(arguments, reader):
    kind = reader.take()
    members = reader.take()
    return arguments.is_of_kind(kind, members)


def call_ground(arguments, reader):
    return arguments.ground()


def call_ideal(arguments, reader):
    return arguments.ideal()


def call_round(arguments, reader):
    return arguments.round_of(reader.take())


def call_answer(arguments, reader):
    return arguments.answer_to(reader.take())


def call_status(arguments, reader):
    kind = reader.take()
    a = reader.take()
    return arguments.status(kind, a)


def call_cut(arguments, reader):
    return arguments.cut(reader.take())


CALLS = {
    0: call_begin,
    1: call_set,
    2: call_turn,
    3: call_sets,
    4: call_is,
    5: call_ground,
    6: call_ideal,
    7: call_round,
    8: call_answer,
    9: call_status,
    10: call_cut,
}


def answers(calls):
    """The answers to the calls, each behind how many numbers it has."""
    reader = Reader(calls)
    arguments = Arguments()
    written = []
    while reader.has_more():
        call = CALLS[reader.take()]
        answer = call(arguments, reader)
        written.append(len(answer))
        written.extend(answer)
    return written
