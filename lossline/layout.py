"""How calls lie in the list that is handed in, and answers in the one that is given back."""


# It copies out of the list, so that nobody can change what was handed in.
class Reader:
    def __init__(self, numbers):
        self.numbers = numbers
        self.place = 0

    def at_end(self):
        return self.place >= len(self.numbers)

    def one_number(self):
        number = self.numbers[self.place]
        self.place = self.place + 1
        return number

    def one_list(self):
        length = self.one_number()
        start = self.place
        self.place = start + length
        return self.numbers[start:self.place]

    def some_lists(self):
        lists = []
        left = self.one_number()
        while left > 0:
            lists.append(self.one_list())
            left = left - 1
        return lists


def laid_out(first, lists):
    answer = [first]
    for numbers in lists:
        answer.append(len(numbers))
        answer.extend(numbers)
    return answer
