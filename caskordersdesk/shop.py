"""The calls on one shop, read from one list of numbers and answered in another."""

from caskordersdesk.packs import check, most, order
from caskordersdesk.stock import Stock

BEGINS = 0
KIND = 1
STAVE = 2
CHECK = 3
ORDER = 4

# How many numbers stand behind each call, from begins to most; the row of check not counted.
NUMBERS_BEHIND = (0, 5, 1, 1, 1, 0)


def answer_call(stock, call, numbers):
    """Give back the list of what one call answers."""
    if call == BEGINS:
        return [stock.begin()]
    if call == KIND:
        around, off, few, many, holds = numbers
        return [stock.add_kind(around, off, few, many, holds)]
    if call == STAVE:
        return [stock.add_stave(numbers[0])]
    if call == CHECK:
        return check(stock.kinds, stock.widths, numbers[1:])
    if call == ORDER:
        return order(stock.kinds, stock.widths, numbers[0])
    return most(stock.kinds, stock.widths)


def answers(calls):
    """Give back, for each call in order, how many numbers it answers, then these."""
    stock = Stock()
    given = []
    place = 0
    while place < len(calls):
        call = calls[place]
        end = place + 1 + NUMBERS_BEHIND[call]
        if call == CHECK:
            end = end + calls[place + 1]
        answer = answer_call(stock, call, calls[place + 1:end])
        given.append(len(answer))
        given.extend(answer)
        place = end
    return given
