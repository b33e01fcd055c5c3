"""The calls on one object, read from one list of whole numbers and answered in order."""

from restgroups.asking import answer_asking
from restgroups.changing import answer_changing
from restgroups.kept import Kept
from restgroups.refusals import NOT_BEGUN

BEGIN = 0
ROW = 2
BE = 4
FIRST_ASKING = 9

# How many whole numbers each call has, ahead of its row if it has one, by the call's number.
PLAIN_NUMBERS = (1, 3, 1, 0, 0, 2, 1, 1, 0, 0, 1, 1, 1, 1, 1, 0, 1, 1, 1, 2, 0, 0, 0, 0, 1, 0, 0)


def split_calls(calls):
    """Each call as its number and all numbers told with it, a row's count left out."""
    found = []
    at = 0
    while at < len(calls):
        number = calls[at]
        end = at + 1 + PLAIN_NUMBERS[number]
        told = calls[at + 1:end]
        if number == ROW or number == BE:
            size = calls[end]
            told = told + calls[end + 1:end + 1 + size]
            end = end + 1 + size
        found.append((number, told))
        at = end
    return found


def answer_call(kept, number, told):
    if number != BEGIN and not kept.is_begun():
        return [NOT_BEGUN]
    if number < FIRST_ASKING:
        return answer_changing(kept, number, told)
    return answer_asking(kept, number - FIRST_ASKING, told)


def answers(calls):
    """For each call, in order: how many numbers are answered, then these."""
    kept = Kept()
    given = []
    for number, told in split_calls(calls):
        numbers = answer_call(kept, number, told)
        given.append(len(numbers))
        given.extend(numbers)
    return given
