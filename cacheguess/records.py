"""What a record holds, and whether it is right."""

from cacheguess.limits import ADDRESS_END, MOST_SIZE

NUMBERS_OF_A_RECORD = 5

FETCH = 0
READ = 1
WRITE = 2
BRANCH = 3
JUMP = 4
CALL = 5
RETURN = 6


class Record:
    def __init__(self, numbers):
        self.address = numbers[0]
        self.to = numbers[1]
        self.size = numbers[2]
        self.kind = numbers[3]
        self.taken = numbers[4]

    def right(self):
        if self.kind > RETURN or self.taken > 1:
            return False
        if self.size < 1 or self.size > MOST_SIZE:
            return False
        return self.address + self.size <= ADDRESS_END and self.to < ADDRESS_END


def records_of(numbers):
    step = NUMBERS_OF_A_RECORD
    return [Record(numbers[at : at + step]) for at in range(0, len(numbers), step)]


# None where every record is right.
def first_wrong(records):
    for number, record in enumerate(records):
        if not record.right():
            return number
    return None
