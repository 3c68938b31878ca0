"""The calls as they are handed in: one list of whole numbers."""

# How many whole numbers stand ahead of a call's rows, and how many rows it has, by its number; 0 where none is told.
WHOLES = {7: 1, 11: 1}
ROWS = {
    0: 1, 3: 1, 4: 2, 5: 2, 6: 1, 7: 1, 8: 1, 11: 1, 12: 1, 13: 1, 14: 1, 15: 1, 16: 1, 17: 2, 18: 1, 19: 2, 20: 2,
}


class Call:
    def __init__(self, number, wholes, rows, behind):
        self.number = number
        self.wholes = wholes
        self.rows = rows
        # Where the next call begins.
        self.behind = behind


def call_at(numbers, place):
    number = numbers[place]
    behind = place + 1 + WHOLES.get(number, 0)
    wholes = numbers[place + 1:behind]
    rows = []
    for turn in range(ROWS.get(number, 0)):
        begin = behind + 1
        behind = begin + numbers[behind]
        rows.append(numbers[begin:behind])
    return Call(number, wholes, rows, behind)


def all_calls(numbers):
    found = []
    place = 0
    while place < len(numbers):
        call = call_at(numbers, place)
        found.append(call)
        place = call.behind
    return found
