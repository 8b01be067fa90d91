"""The refusals of a deed, an error class for each.

The value `answer` of each is the text that the refused deed is answered with.
"""


class Refusal(Exception):
    def __init__(self, answer):
        Exception.__init__(self, answer)
        self.answer = answer


class Nobody(Refusal):
    def __init__(self):
        Refusal.__init__(self, "nobody")


class NoOrder(Refusal):
    def __init__(self):
        Refusal.__init__(self, "no order")


class NoSacks(Refusal):
    def __init__(self):
        Refusal.__init__(self, "no sacks")


class NoPrice(Refusal):
    def __init__(self):
        Refusal.__init__(self, "no price")


class TooPoor(Refusal):
    def __init__(self):
        Refusal.__init__(self, "too poor")


class TooFew(Refusal):
    def __init__(self):
        Refusal.__init__(self, "too few")
