"""Reading calls from one list of whole numbers."""


class Reader:
    """Takes numbers and lists one behind another; the list that is read stays as it is."""

    def __init__(self, numbers):
        self.numbers = numbers
        self.place = 0

    def at_end(self):
        return self.place == len(self.numbers)

    def take_number(self):
        number = self.numbers[self.place]
        self.place = self.place + 1
        return number

    def take_list(self):
        """A list with how many numbers it has before it."""
        size = self.take_number()
        start = self.place
        self.place = start + size
        return self.numbers[start:self.place]

    def take_lists(self):
        """Lists with how many they are before them."""
        size = self.take_number()
        return [self.take_list() for turn in range(size)]
