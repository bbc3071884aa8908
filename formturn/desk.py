"""The desk: lines that ask are answered, and their words are counted."""

from formturn.errors import FormError, NotBare, NotWritten, OtherBar, OutOfBounds
from formturn.forms import require_form
from formturn.genus import genus_of
from formturn.group import round_of
from formturn.joining import joined
from formturn.least import alike, least_of
from formturn.notes import read, written
from formturn.whole import require_whole

WORDS = ("least", "alike", "joined", "round", "genus", "count")


def require_so_many(forms, least):
    if len(forms) < least:
        raise OutOfBounds("too few forms")


class Question:
    def __init__(self, forms):
        # A list of its own: what the asker does to the one handed in later changes no answer.
        self.forms = list(forms)
        for form in self.forms:
            require_form(form)

    def told(self):
        return str(len(self.forms))

    def line(self, width):
        require_whole(width)
        return self.told().rjust(width)


class LeastQuestion(Question):
    def told(self):
        require_so_many(self.forms, 1)
        return written(least_of(self.forms[0])[0])


class RoundQuestion(LeastQuestion):
    def told(self):
        require_so_many(self.forms, 1)
        way = round_of(self.forms[0])
        first = written(way[0])
        length = len(way)
        return f"{first} {length}"


class AlikeQuestion(Question):
    def told(self):
        require_so_many(self.forms, 2)
        return "yes" if alike(self.forms[0], self.forms[1])[0] else "no"


class JoinedQuestion(Question):
    def told(self):
        require_so_many(self.forms, 1)
        joint = least_of(self.forms[0])[0]
        for form in self.forms[1:]:
            joint = joined(joint, form)[0]
        return written(joint)


class GenusQuestion(Question):
    def told(self):
        require_so_many(self.forms, 1)
        return str(genus_of(self.forms[0]))


def question_of(word, forms):
    if word == "least":
        return LeastQuestion(forms)
    if word == "alike":
        return AlikeQuestion(forms)
    if word == "joined":
        return JoinedQuestion(forms)
    if word == "round":
        return RoundQuestion(forms)
    if word == "genus":
        return GenusQuestion(forms)
    if word == "count":
        return Question(forms)
    raise NotWritten("another word")


def forms_read(text):
    if text.strip(" ") == "":
        return []
    return [read(part) for part in text.split(";")]


def asked(line):
    parts = line.partition(" ")
    return question_of(parts[0], forms_read(parts[2]))


def answer_to(line, width):
    try:
        return asked(line).line(width)
    except OtherBar:
        return "refused: bars"
    except NotBare:
        return "refused: bare"
    except FormError:
        return "refused"


def answered(lines, width=0):
    # Ahead of the lines: a width that is none is no line's fault.
    require_whole(width)
    return [answer_to(line, width) for line in lines]


def tally(lines):
    counts = {}
    for line in lines:
        word = line.partition(" ")[0]
        if word in WORDS:
            counts[word] = counts.get(word, 0) + 1
    return list(counts.items())
