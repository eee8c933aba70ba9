"""The way in: a list of calls on one new house, and the list of what they answer."""

from ductplan.calls import answer_call, argument_count
from ductplan.house import House


def answers(calls):
    """For each call, in order: how many numbers are answered, then these."""
    house = House()
    numbers = []
    start = 0
    while start < len(calls):
        number = calls[start]
        end = start + 1 + argument_count(number)
        answer = answer_call(house, number, tuple(calls[start + 1:end]))
        numbers.append(len(answer))
        numbers.extend(answer)
        start = end
    return numbers
