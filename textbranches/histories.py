"""Histories: calls on one new object, and what they answer."""

from textbranches.answering import answer_call
from textbranches.reading import Reader
from textbranches.state import State


def answers(calls):
    """For each call, in order: how many numbers it answers, then these."""
    reader = Reader(calls)
    state = State()
    told = []
    while not reader.at_end():
        number = reader.take_number()
        numbers = reader.take_list()
        lists = reader.take_lists()
        answer = answer_call(state, number, numbers, lists)
        told.append(len(answer))
        told.extend(answer)
    return told
