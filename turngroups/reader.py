"""Numbers taken one behind another from a list, which itself is never changed."""


# A list isn't whole what it should be: it ends too early, goes on too long, or has a number out of its bounds.
class NotWhole(ValueError):
    pass


class Reader:
    def __init__(self, numbers):
        self.numbers = numbers
        self.position = 0

    def has_more(self):
        return self.position < len(self.numbers)

    def taken(self):
        if not self.has_more():
            raise NotWhole("the list ends too early")
        number = self.numbers[self.position]
        self.position = self.position + 1
        return number

    def taken_between(self, low, high):
        number = self.taken()
        if number < low or number > high:
            raise NotWhole("a number is out of its bounds")
        return number

    def taken_counted(self):
        count = self.taken()
        counted = []
        for place in range(count):
            counted.append(self.taken())
        return counted

    def must_end(self):
        if self.has_more():
            raise NotWhole("the list goes on too long")
