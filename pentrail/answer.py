"""An answer: a number, a list of whole numbers and a text."""


class Answer:
    def __init__(self, number, listed, text):
        self.number = number
        self.listed = listed
        self.text = text

    # The counts stand beside a refusal that has a list too: only an answer without both is its number alone.
    def flat(self):
        if not self.listed and not self.text:
            return [self.number]
        return [self.number, len(self.listed)] + self.listed + [len(self.text)] + self.text


def number_alone(number):
    return Answer(number, [], [])


def with_list(number, listed):
    return Answer(number, listed, [])


# Where a text is answered, the number beside it is how many bytes it has.
def with_text(text):
    return Answer(len(text), [], text)
