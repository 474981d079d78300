"""Going through a list of whole numbers from its beginning to its end; lists with their length in front."""

# Stands for the sign behind the last one; it is like no sign of any form.
NO_SIGN = -1


class WrongForm(Exception):
    pass


def counted(numbers):
    return [len(numbers)] + numbers


class Reader:
    def __init__(self, numbers):
        self.numbers = numbers
        self.place = 0

    def ended(self):
        # Asked of the place: a key may hold any number, also the one of NO_SIGN.
        return self.place == len(self.numbers)

    def ahead(self):
        return NO_SIGN if self.ended() else self.numbers[self.place]

    def take(self):
        if self.ended():
            raise WrongForm()
        self.place = self.place + 1
        return self.numbers[self.place - 1]

    def take_many(self, size):
        if size < 0 or size > len(self.numbers) - self.place:
            raise WrongForm()
        self.place = self.place + size
        return self.numbers[self.place - size:self.place]

    def take_counted(self):
        return self.take_many(self.take())

    def skip(self, sign):
        if self.ended() or self.numbers[self.place] != sign:
            return False
        self.place = self.place + 1
        return True

    def skip_all(self, signs):
        end = self.place + len(signs)
        if self.numbers[self.place:end] != signs:
            return False
        self.place = end
        return True

    def expect(self, sign):
        if not self.skip(sign):
            raise WrongForm()

    def expect_end(self):
        if not self.ended():
            raise WrongForm()
