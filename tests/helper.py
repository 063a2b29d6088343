"""What the tests share: texts as lists of characters, and answers as texts."""

from quirecopies.copies import befell, do, ideal, tell


def chars(text):
    return [ord(char) for char in text]


def shown(answer):
    """An answered text as a str, a refusal as its list."""
    if answer[0] < 0:
        return answer
    if answer[0] != len(answer) - 1:
        raise AssertionError(f"told {answer[0]} characters, gave {len(answer) - 1}")
    return "".join(chr(char) for char in answer[1:])


def ideal_of_lines(*lines):
    return shown(ideal(chars(lined(*lines))))


def told(book, copy):
    """The lines of tell as one str, a refusal as its list."""
    return shown(tell(chars(book), chars(copy)))


def done(book, lines):
    """The formula of do as a str, a refusal as its list."""
    return shown(do(chars(book), chars(lines)))


def befallen(number, *lines):
    """The lines of befell as one str, a refusal as its list."""
    return shown(befell(number, chars(lined(*lines))))


def lined(*lines):
    return "".join(line + "\n" for line in lines)


def marked(text):
    """A text without its mark ^, and the place where the mark stood."""
    place = text.index("^")
    return text[:place] + text[place + 1:], place


class Unchanging(list):
    """A list that refuses every change, so that none is made for a while either."""

    def refuse(self, *rest, **named):
        raise AssertionError("what is handed in was changed")

    append = clear = extend = insert = pop = remove = reverse = sort = refuse
    __setitem__ = __delitem__ = __iadd__ = __imul__ = refuse
