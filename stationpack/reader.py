"""A list of numbers that is read from its beginning, and never changed."""


class Reader:
    def __init__(self, numbers):
        self.numbers = numbers
        self.place = 0

    def left(self):
        return len(self.numbers) - self.place

    def take(self):
        number = self.numbers[self.place]
        self.place += 1
        return number

    def take_many(self, many):
        taken = self.numbers[self.place:self.place + many]
        self.place += many
        return taken

    def take_counted(self):
        many = self.take()
        return self.take_many(many)
