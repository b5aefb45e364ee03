"""A second reading of point 22: where the first fault of a text is, by plain recursion and patterns."""

import math
import re

NAME = re.compile("[a-z][a-z0-9]{0,11}")
WHOLE = re.compile("0|[1-9][0-9]{0,11}")
NUMBER = re.compile("(-?)(0|[1-9][0-9]{0,11})(?:/([1-9][0-9]{0,11}))?")


class Wrong(Exception):
    """The word at this place is wrong."""


class Short(Exception):
    """The words are over ahead of the end of the line."""


class Words:
    """The words of a line, taken one by one."""

    def __init__(self, line):
        self.words = line.split(" ")
        self.place = 0

    def take(self, is_right):
        if self.place == len(self.words):
            raise Short()
        word = self.words[self.place]
        if not is_right(word):
            raise Wrong(self.place)
        self.place += 1
        return word

    def one_of(self, *words):
        return self.take(lambda word: word in words)

    def name(self):
        self.take(NAME.fullmatch)

    def number(self):
        self.take(is_number)

    def amount(self):
        word = self.one_of("number", "name", "payout", "time", "plus", "times", "max", "min")
        if word == "number":
            self.number()
        elif word in ("name", "payout"):
            self.name()
        elif word == "times":
            self.number()
            self.amount()
        elif word != "time":
            self.amount()
            self.amount()

    def condition(self):
        word = self.one_of("leaf", "compare", "not", "and", "or")
        if word == "compare":
            self.one_of("=", "!=", "<", "<=", ">", ">=")
            self.amount()
            self.amount()
        elif word != "leaf":
            self.condition()
            if word != "not":
                self.condition()

    def clause(self):
        word = self.one_of("nothing", "pay", "next", "both", "if", "holder", "writer")
        if word == "pay":
            self.amount()
        elif word == "next":
            self.name()
        elif word != "nothing":
            if word == "if":
                self.condition()
            self.clause()
            self.clause()

    def names(self, word, least):
        self.one_of(word)
        many = 0
        while many < least or self.place < len(self.words):
            self.name()
            many += 1

    def node(self, assets, seen):
        self.one_of("node")
        self.take(lambda word: word == "root" or WHOLE.fullmatch(word))
        self.number()
        for _ in range(assets):
            self.one_of("any", "long", "short", "none")
            self.number()
            self.number()
        for _ in range(seen):
            self.number()

    def define(self):
        self.one_of("define")
        self.name()
        self.clause()


def is_number(word):
    found = NUMBER.fullmatch(word)
    if found is None:
        return False
    sign, n, d = found.groups()
    if sign and n == "0":
        return False
    return d is None or (int(d) > 1 and math.gcd(int(n), int(d)) == 1)


def take_line(kind, before, words):
    if kind == "market":
        if not before:
            words.names("assets", 1)
        elif len(before) == 1:
            words.names("seen", 0)
        else:
            words.node(len(before[0].split(" ")) - 1, len(before[1].split(" ")) - 1)
    elif kind == "contract":
        words.define()
    elif not before:
        words.one_of("written", "held")
    elif before[-1] in ("written", "held"):
        words.define()
    elif words.words[0] == "define":
        words.define()
    else:
        words.one_of("written", "held")
    if words.place < len(words.words):
        raise Wrong(words.place)


def fault_in(kind, text):
    """The line and the column of the first fault of the text, None if it is a written form."""
    lines = text.split("\n")
    has_newline = lines[-1] == ""
    if has_newline:
        lines.pop()
    for place, line in enumerate(lines):
        words = Words(line)
        try:
            take_line(kind, lines[:place], words)
        except Wrong as wrong:
            return (place + 1, 1 + sum(len(word) + 1 for word in words.words[:wrong.args[0]]))
        except Short:
            return (place + 1, len(line) + 1)
        if place == len(lines) - 1 and not has_newline:
            return (place + 1, len(line) + 1)
    if kind == "market" and len(lines) < 2 or kind == "book" and lines and lines[-1] in ("written", "held"):
        return (len(lines) + 1, 1)
    return None
