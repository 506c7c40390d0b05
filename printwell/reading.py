"""Expressions read from texts, as trees."""

from printwell.errors import BadText

LETTERS = "abcdefghijklmnopqrstuvwxyz"
FIGURES = "0123456789"
PASSED = " \n"
SUM_SIGNS = ("+", "-")
PRODUCT_SIGNS = ("*",)
MOST_WITHIN = 20


# It takes a sign only where an expression may have it, so the place where it stops is the wrong one.
class Reader:
    def __init__(self, text):
        self.text = text
        self.place = 0
        self.depth = 0

    def is_at(self, signs):
        return self.place < len(self.text) and self.text[self.place] in signs

    def pass_blanks(self):
        while self.is_at(PASSED):
            self.place += 1

    def is_next(self, signs):
        self.pass_blanks()
        return self.is_at(signs)

    def take(self, sign):
        if not self.is_next(sign):
            raise BadText(self.place)
        self.place += 1

    def take_run(self, signs):
        begin = self.place
        while self.is_at(signs):
            self.place += 1
        return self.text[begin:self.place]

    def enter(self, sign):
        if self.is_next(sign) and self.depth == MOST_WITHIN:
            raise BadText(self.place)
        self.take(sign)
        self.depth += 1

    def leave(self, sign):
        self.take(sign)
        self.depth -= 1

    def whole(self):
        tree = self.sum_tree()
        self.pass_blanks()
        if self.place < len(self.text):
            raise BadText(self.place)
        return tree

    def sum_tree(self):
        tree = self.product_tree()
        while self.is_next(SUM_SIGNS):
            sign = self.text[self.place]
            self.take(sign)
            tree = (sign, tree, self.product_tree())
        return tree

    def product_tree(self):
        tree = self.operand()
        while self.is_next(PRODUCT_SIGNS):
            sign = self.text[self.place]
            self.take(sign)
            tree = (sign, tree, self.operand())
        return tree

    def operand(self):
        if self.is_next(LETTERS):
            return self.name_or_call()
        if self.is_next(FIGURES):
            return ("number", self.number())
        if self.is_next("["):
            return ("row", self.parts("[", "]"))
        self.enter("(")
        tree = self.sum_tree()
        self.leave(")")
        return tree

    def name_or_call(self):
        name = self.take_run(LETTERS)
        if self.is_next("("):
            return ("call", name, self.parts("(", ")"))
        return ("name", name)

    def number(self):
        # A nought is a number by itself: a figure behind it can not stand there.
        if self.is_at("0"):
            self.take("0")
            return 0
        number = 0
        # Figure by figure, as int does not take texts of any length.
        for figure in self.take_run(FIGURES):
            number = 10 * number + FIGURES.index(figure)
        return number

    def parts(self, opening, closing):
        self.enter(opening)
        parts = []
        if not self.is_next(closing):
            parts.append(self.sum_tree())
            while self.is_next(","):
                self.take(",")
                parts.append(self.sum_tree())
        self.leave(closing)
        return tuple(parts)


def read(text):
    return Reader(text).whole()
