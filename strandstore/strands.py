"""The calls on one writer and one reader, and what they answer."""

from strandstore.calls import CallNumbers
from strandstore.field import Field
from strandstore.reader import Reader
from strandstore.writer import Writer

SK_START = 0
SK_STRAND = 1
SR_START = 2
SR_READ = 3
SR_LACKS = 4
SR_BYTES = 5


class UnknownCall(ValueError):
    """A call of a number that is none of the calls above."""


def sk_start(numbers, writer):
    k = numbers.take_number()
    m = numbers.take_number()
    return writer.begin(k, m, numbers.take_row())


def sr_start(numbers, reader):
    k = numbers.take_number()
    m = numbers.take_number()
    return reader.begin(k, m, numbers.take_number())


def answer_next(numbers, writer, reader):
    call = numbers.take_number()
    if call == SK_START:
        return sk_start(numbers, writer)
    if call == SK_STRAND:
        return writer.strand(numbers.take_number())
    if call == SR_START:
        return sr_start(numbers, reader)
    if call == SR_READ:
        return reader.read(numbers.take_row())
    if call == SR_LACKS:
        return reader.lacks()
    if call == SR_BYTES:
        return reader.block(numbers.take_number())
    raise UnknownCall(f"no call has the number {call}")


def answers(calls):
    """For each call, in order: how many numbers are answered, then these."""
    numbers = CallNumbers(calls)
    field = Field()
    writer = Writer(field)
    reader = Reader(field)
    answered = []
    while not numbers.is_taken():
        answer = answer_next(numbers, writer, reader)
        answered.append(len(answer))
        answered.extend(answer)
    return answered
