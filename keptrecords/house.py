"""The calls on one house, one behind another, as lists of whole numbers."""

from keptrecords.commands import answer_to
from keptrecords.state import House
from keptrecords.words import codes_of, is_text, words_of


def say(house, codes):
    if not is_text(codes):
        return [-1]
    told = codes_of(answer_to(house, words_of(codes)))
    return [len(told)] + told


def answers(calls):
    house = House()
    answered = []
    place = 0
    while place < len(calls):
        # A call is its number, the text's length, the text, and a 0, as it has no lists.
        start = place + 2
        end = start + calls[place + 1]
        told = say(house, calls[start:end])
        answered.append(len(told))
        answered.extend(told)
        place = end + 1
    return answered
