"""The people's end, as it is at first."""


class People:
    def __init__(self, width, height):
        self.costs = [0] * (width * height)
        self.told = 0
        self.last_number = 0
        self.last_cell = 0
        self.last_answer = None
