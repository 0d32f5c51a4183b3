"""The chance by which policy 3 puts lines away."""


class Chance:
    def __init__(self):
        self.bits = 0xACE1

    def draw(self, ways):
        fell_out = self.bits & 1
        self.bits = self.bits >> 1
        if fell_out == 1:
            self.bits = self.bits ^ 0xB400
        return self.bits % ways
