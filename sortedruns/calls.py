"""The calls, taken from the one flat list that they are handed over in."""

SCHEMA = 0
PUT = 1
DROP = 2
FLUSH = 3
MERGE = 4
ADVISE = 5
SNAP = 6
CLOSE = 7
GET = 8
SCAN = 9
RUNS = 10
RUN = 11

# By a call's number: how many whole numbers it has, and how many lists behind them.
SHAPES = (
    (0, 2),
    (0, 1),
    (0, 1),
    (0, 0),
    (2, 0),
    (0, 0),
    (0, 0),
    (1, 0),
    (1, 1),
    (2, 2),
    (0, 0),
    (1, 0),
    (0, 0),
)


class Call:
    def __init__(self, number, numbers, lists):
        self.number = number
        self.numbers = numbers
        self.lists = lists


def read_call(reader):
    number = reader.take()
    shape = SHAPES[number]
    numbers = reader.take_many(shape[0])
    lists = [reader.take_counted() for step in range(shape[1])]
    return Call(number, numbers, lists)
