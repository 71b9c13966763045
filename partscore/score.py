"""The package's interface."""

from partscore.calls import answer_call
from partscore.reading import Reader
from partscore.state import Score


def answers(calls):
    """Answer the calls of one list, in order, each behind how many numbers it has."""
    reader = Reader(calls)
    score = Score()
    told = []
    while not reader.at_end():
        answer = answer_call(score, reader)
        told.append(len(answer))
        told.extend(answer)
    return told
