"""The errors by which texts and copies are refused."""


# A text isn't of its form; place is where, from 0.
class TextFault(Exception):
    def __init__(self, place):
        self.place = place


# Copies have no ideal; why is 1 to 4, first and second are two copies' numbers.
class NoIdeal(Exception):
    def __init__(self, why, first, second):
        self.why = why
        self.first = first
        self.second = second


# A copy has this signature, and the book hasn't, or of another size.
class NotOfBook(Exception):
    def __init__(self, signature):
        self.signature = signature
