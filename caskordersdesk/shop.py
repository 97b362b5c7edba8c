"""The calls on one shop, read from one list of numbers and answered in another."""

from caskordersdesk.stock import Stock

BEGINS = 0
KIND = 1

# How many numbers stand behind begins, kind and stave, in this order.
NUMBERS_BEHIND = (0, 5, 1)


def answer_call(stock, call, numbers):
    """Give back the list of what one call answers."""
    if call == BEGINS:
        return [stock.begin()]
    if call == KIND:
        around, off, few, many, holds = numbers
        return [stock.add_kind(around, off, few, many, holds)]
    return [stock.add_stave(numbers[0])]


def answers(calls):
    """Give back, for each call in order, how many numbers it answers, then these."""
    stock = Stock()
    given = []
    place = 0
    while place < len(calls):
        call = calls[place]
        end = place + 1 + NUMBERS_BEHIND[call]
        answer = answer_call(stock, call, calls[place + 1:end])
        given.append(len(answer))
        given.extend(answer)
        place = end
    return given
