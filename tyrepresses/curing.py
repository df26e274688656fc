"""The calls on one plant, and what they answer."""

from tyrepresses.plant import NOT_BEGUN, Plant
from tyrepresses.adding import begin, answer_adding
from tyrepresses.handling import answer_handling
from tyrepresses.asking import answer_asking
from tyrepresses.sharing import answer_sharing
from tyrepresses.telling import answer_telling

# How many numbers stand behind each call's own.
GIVEN = (3, 2, 1, 0, 1, 2, 1, 1, 2, 1, 1, 1, 1, 1, 0, 1, 1, 1, 2, 0, 1, 2, 1, 1, 1, 0, 0)


def answer_call(plant, number, given):
    if number == 0:
        return begin(plant, given[0], given[1], given[2])
    if not plant.begun:
        return [NOT_BEGUN]
    if number <= 4:
        return answer_adding(plant, number, given)
    if number <= 11:
        return answer_handling(plant, number, given)
    if number <= 16:
        return answer_asking(plant, number, given)
    if number <= 19:
        return answer_sharing(plant, number, given)
    return answer_telling(plant, number, given)


def answers(calls):
    """For each call, in order, how many numbers it answers, and these."""
    plant = Plant()
    told = []
    at = 0
    while at < len(calls):
        behind = at + 1 + GIVEN[calls[at]]
        answer = answer_call(plant, calls[at], calls[at + 1:behind])
        told.append(len(answer))
        told.extend(answer)
        at = behind
    return told
