"""The works, asked by lists of whole numbers."""

from beetcampaign.campaign import Campaign
from beetcampaign.clamp_calls import CLAMP_CALLS
from beetcampaign.field_calls import FIELD_CALLS
from beetcampaign.grower_calls import GROWER_CALLS
from beetcampaign.juice_calls import JUICE_CALLS
from beetcampaign.pan_calls import PAN_CALLS
from beetcampaign.refusals import WRONG
from beetcampaign.silo_calls import SILO_CALLS
from beetcampaign.total_calls import TOTAL_CALLS
from beetcampaign.tower_calls import TOWER_CALLS

START = 0
MOST_WEEKS = 6
MOST_TONS_A_WEEK = 30000


class Reader:
    """Goes through a list of numbers, which stays as it is."""

    def __init__(self, numbers):
        self.numbers = numbers
        self.place = 0

    def at_end(self):
        return self.place >= len(self.numbers)

    def take(self):
        number = self.numbers[self.place]
        self.place += 1
        return number

    def take_row(self):
        length = self.take()
        row = self.numbers[self.place:self.place + length]
        self.place += length
        return row


def weeks_fit(weeks):
    return 1 <= len(weeks) <= MOST_WEEKS and max(weeks) <= MOST_TONS_A_WEEK


def find_call(number):
    """What answers the call, how many whole numbers it has, and whether a row follows."""
    if number in GROWER_CALLS:
        return GROWER_CALLS[number]
    if number in FIELD_CALLS:
        return FIELD_CALLS[number]
    if number in CLAMP_CALLS:
        return CLAMP_CALLS[number]
    if number in TOWER_CALLS:
        return TOWER_CALLS[number]
    if number in JUICE_CALLS:
        return JUICE_CALLS[number]
    if number in PAN_CALLS:
        return PAN_CALLS[number]
    if number in SILO_CALLS:
        return SILO_CALLS[number]
    return TOTAL_CALLS[number]


def answer_with(call, works, given):
    if len(given) == 0:
        return call(works)
    if len(given) == 1:
        return call(works, given[0])
    if len(given) == 2:
        return call(works, given[0], given[1])
    return call(works, given[0], given[1], given[2])


def read_and_answer(reader, number, works):
    found = find_call(number)
    given = [reader.take() for place in range(found[1])]
    if found[2]:
        given.append(reader.take_row())
    return answer_with(found[0], works, given)


def answers(calls):
    """For each call, in order: how many numbers it answers, and these."""
    reader = Reader(calls)
    works = None
    told = []
    while not reader.at_end():
        number = reader.take()
        if number == START:
            weeks = reader.take_row()
            answer = [WRONG]
            if weeks_fit(weeks):
                works = Campaign(weeks)
                answer = [0]
        else:
            answer = read_and_answer(reader, number, works)
        told.append(len(answer))
        told.extend(answer)
    return told
