"""The interface: a list of calls is handed in, the list of their answers is given back."""

from duetimers.book import TimerBook

BEGIN = 1
SET = 2
AFTER = 3
AWAY = 4
AWAY_ALL = 5
LOOK = 6
NEXT = 7
TIME = 8
COUNT = 9
LATER = 10
HOLD = 11
GO_ON = 12

# By a call's number, how many whole numbers stand behind it; 13 is list.
HOW_MANY_NUMBERS = {1: 1, 2: 4, 3: 4, 4: 1, 5: 1, 6: 1, 7: 0, 8: 2, 9: 0, 10: 2, 11: 1, 12: 1, 13: 2}


def answers(calls):
    book = TimerBook()
    told = []
    place = 0
    while place < len(calls):
        call = calls[place]
        end = place + 1 + HOW_MANY_NUMBERS[call]
        answer = answer_one(book, call, calls[place + 1:end])
        told.append(len(answer))
        told.extend(answer)
        place = end
    return told


def answer_one(book, call, numbers):
    if call == BEGIN:
        return book.begin(numbers[0])
    if call == SET:
        return book.put(numbers[0], numbers[1], numbers[2], numbers[3])
    if call == AFTER:
        return book.put_after(numbers[0], numbers[1], numbers[2], numbers[3])
    if call == AWAY:
        return book.away(numbers[0])
    if call == AWAY_ALL:
        return book.away_all(numbers[0])
    if call == LOOK:
        return book.look(numbers[0])
    if call == NEXT:
        return book.first_due()
    if call == TIME:
        return book.come_due(numbers[0], numbers[1])
    if call == COUNT:
        return book.how_many()
    if call == LATER:
        return book.later(numbers[0], numbers[1])
    if call == HOLD:
        return book.hold(numbers[0])
    if call == GO_ON:
        return book.go_on(numbers[0])
    return book.in_order(numbers[0], numbers[1])
