"""The interface: a list of calls is run on one new instance."""

from rootcounts.errors import NotCreated, Refusal
from rootcounts.operations import OPERATIONS
from rootcounts.reading import CREATE, read_calls


def run_call(slots, number, arguments):
    """Answer the numbers of one call, or raise its refusal."""
    if number != CREATE and not slots:
        raise NotCreated()
    operation = OPERATIONS[number]
    return operation(slots, arguments)


def answer_call(slots, number, arguments):
    """Answer the numbers of one call, or its error code alone."""
    try:
        return run_call(slots, number, arguments)
    except Refusal as refusal:
        return [refusal.code]


def answers(calls):
    """Answer, for each call in order, how many numbers are answered, and these."""
    slots = []
    reply = []
    for number, arguments in read_calls(calls):
        answered = answer_call(slots, number, arguments)
        reply.append(len(answered))
        reply.extend(answered)
    return reply
