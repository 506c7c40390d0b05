"""[3.1], [3.2] and [3.3]: expressions, their trees, and the wrong place of other texts."""

import ast
import random
import unittest

from helper import short_time
from printwell.errors import BadBits, BadText, PrintError
from printwell.reading import read

A = ("name", "a")
B = ("name", "b")
C = ("name", "c")
ONE = ("number", 1)
TWO = ("number", 2)


class TreesTest(unittest.TestCase):
    def check(self, text, wanted):
        with self.subTest(text=text):
            self.assertEqual(read(text), wanted)

    def test_names(self):
        self.check("a", A)
        self.check("z", ("name", "z"))
        self.check("abcdefghijklmnopqrstuvwxyz", ("name", "abcdefghijklmnopqrstuvwxyz"))
        self.check("x" * 4000, ("name", "x" * 4000))

    def test_numbers(self):
        self.check("0", ("number", 0))
        self.check("1", ONE)
        self.check("1234567890", ("number", 1234567890))
        self.check("100", ("number", 100))
        self.check("9" * 4000, ("number", 10 ** 4000 - 1))
        self.assertIs(type(read("0")[1]), int)
        self.assertIs(type(read("1")[1]), int)

    def test_noughts_that_may_stand(self):
        self.check("0+0", ("+", ("number", 0), ("number", 0)))
        self.check("10*0", ("*", ("number", 10), ("number", 0)))
        self.check("f(0,0)", ("call", "f", (("number", 0), ("number", 0))))

    def test_calls(self):
        self.check("f()", ("call", "f", ()))
        self.check("fun(a)", ("call", "fun", (A,)))
        self.check("f(a,1,b)", ("call", "f", (A, ONE, B)))
        self.check("f(g(),h(a))", ("call", "f", (("call", "g", ()), ("call", "h", (A,)))))
        self.check("f(a+b,(c))", ("call", "f", (("+", A, B), C)))

    def test_rows(self):
        self.check("[]", ("row", ()))
        self.check("[a]", ("row", (A,)))
        self.check("[a,1,b]", ("row", (A, ONE, B)))
        self.check("[[],[[a]]]", ("row", (("row", ()), ("row", (("row", (A,)),)))))
        self.check("[a*b,f()]", ("row", (("*", A, B), ("call", "f", ()))))

    def test_parts_are_in_tuples(self):
        for text in ("f()", "f(a)", "f(a,b)", "[]", "[a]", "[a,b]"):
            self.assertIsInstance(read(text)[-1], tuple)

    def test_sums_and_products(self):
        self.check("a+b", ("+", A, B))
        self.check("a-b", ("-", A, B))
        self.check("a*b", ("*", A, B))

    def test_products_bind_more_tightly(self):
        self.check("a+b*c", ("+", A, ("*", B, C)))
        self.check("a*b+c", ("+", ("*", A, B), C))
        self.check("a*b-c*1", ("-", ("*", A, B), ("*", C, ONE)))
        self.check("a-b*c*1+2", ("+", ("-", A, ("*", ("*", B, C), ONE)), TWO))

    def test_operators_join_from_the_left(self):
        self.check("a+b+c", ("+", ("+", A, B), C))
        self.check("a-b-c", ("-", ("-", A, B), C))
        self.check("a-b+c-1", ("-", ("+", ("-", A, B), C), ONE))
        self.check("a+b-c", ("-", ("+", A, B), C))
        self.check("a*b*c*1", ("*", ("*", ("*", A, B), C), ONE))

    def test_sums_in_brackets(self):
        self.check("(a+b)*c", ("*", ("+", A, B), C))
        self.check("a*(b-c)", ("*", A, ("-", B, C)))
        self.check("a-(b-c)", ("-", A, ("-", B, C)))
        self.check("a+(b+c)", ("+", A, ("+", B, C)))
        self.check("a*(b*c)", ("*", A, ("*", B, C)))
        self.check("(a+b)*(c-1)*2", ("*", ("*", ("+", A, B), ("-", C, ONE)), TWO))

    def test_brackets_leave_no_trace(self):
        for text in ("a", "0", "f(a)", "[a,b]", "a+b*c"):
            self.check(f"({text})", read(text))
            self.check(f"((({text})))", read(text))
            self.check(f"( ( {text}\n) )", read(text))
        self.check("(a*b)+c", read("a*b+c"))
        self.check("(a+b)+c", read("a+b+c"))
        self.check("f((a))", read("f(a)"))
        self.check("[((a)),(b)]", read("[a,b]"))

    def test_calls_and_rows_as_operands(self):
        self.check("f(a)*[b]-g()", ("-", ("*", ("call", "f", (A,)), ("row", (B,))), ("call", "g", ())))

    def test_blanks_and_line_ends_in_every_place(self):
        signs = ["f", "(", "a", "+", "1", "*", "(", "b", "-", "0", ")", ",", "[", "]", ",", "[", "c", ",", "12", "]", ")"]
        wanted = read("".join(signs))
        for gap in (" ", "\n", "   ", "\n\n", " \n \n  "):
            for place in range(len(signs) + 1):
                self.check("".join(signs[:place]) + gap + "".join(signs[place:]), wanted)
            self.check(gap + gap.join(signs) + gap, wanted)
        self.check("f (a)", ("call", "f", (A,)))
        self.check("f\n()", ("call", "f", ()))

    def test_long_texts(self):
        tree = read("+".join(["a"] * 2000))
        for step in range(1999):
            self.assertEqual((tree[0], tree[2]), ("+", A))
            tree = tree[1]
        self.assertEqual(tree, A)
        self.check("[" + ",".join(["a"] * 1999) + "]", ("row", (A,) * 1999))
        self.check("a" + " " * 3999, A)

    def test_twenty_within_one_another(self):
        wanted = A
        self.check("(" * 20 + "a" + ")" * 20, wanted)
        for step in range(20):
            wanted = ("row", (wanted,))
        self.check("[" * 20 + "a" + "]" * 20, wanted)
        wanted = ("call", "f", ())
        for step in range(19):
            wanted = ("call", "f", (wanted,))
        self.check("f(" * 20 + ")" * 20, wanted)
        self.check("(" * 6 + "f(" * 7 + "[" * 7 + "a" + "]" * 7 + ")" * 7 + ")" * 6, self.sevens())

    def sevens(self):
        tree = A
        for step in range(7):
            tree = ("row", (tree,))
        for step in range(7):
            tree = ("call", "f", (tree,))
        return tree

    def test_only_those_within_one_another_are_counted(self):
        self.check("+".join(["(a)"] * 50), read("+".join(["a"] * 50)))
        self.check("[" + ",".join(["f([])"] * 50) + "]", ("row", (("call", "f", (("row", ()),)),) * 50))
        self.check("f(" + "(" * 18 + "[]" + ")" * 18 + ",[[]])", ("call", "f", (("row", ()), ("row", (("row", ()),)))))
        self.check("(" * 20 + "a" + ")" * 20 + "+" + "(" * 20 + "b" + ")" * 20, ("+", A, B))


class WrongPlaceTest(unittest.TestCase):
    def check(self, text, place):
        with self.subTest(text=text):
            with self.assertRaises(BadText) as taken:
                read(text)
            self.assertEqual(taken.exception.place, place)
            self.assertIsInstance(taken.exception, PrintError)
            self.assertIsInstance(taken.exception, ValueError)
            self.assertNotIsInstance(taken.exception, BadBits)

    def with_gaps(self, ahead, behind):
        """The sign with which the second text begins is wrong, whatever gaps are ahead of it."""
        for gap in ("", " ", "\n", "  \n "):
            self.check(ahead + gap + behind, len(ahead + gap))
            self.check(gap + ahead + gap + behind, len(gap + ahead + gap))

    def test_nothing_but_blanks(self):
        self.check("", 0)
        self.check(" ", 1)
        self.check("\n", 1)
        self.check("  \n \n", 5)

    def test_texts_that_end_too_early(self):
        for text in ("a+", "a-", "a*", "a+b*", "(", "(a", "(a+", "((a)", "f(", "f(a", "f(a,", "f(a,b", "f(a+",
                     "[", "[a", "[a,", "[a*", "[[]", "[f()", "a+(b", "f([a,(b)]"):
            self.with_gaps(text, "")

    def test_at_the_beginning(self):
        for sign in ")],+-*":
            self.with_gaps("", sign)
            self.with_gaps("", sign + "a")

    def test_behind_an_operator(self):
        for operator in "+-*":
            for sign in ")],+-*":
                self.with_gaps("a" + operator, sign)
                self.with_gaps("f(a" + operator, sign + "b)")

    def test_behind_an_opening_bracket(self):
        for sign in ")],+-*":
            self.with_gaps("(", sign)
        for sign in "],+-*":
            self.with_gaps("f(", sign)
        for sign in "),+-*":
            self.with_gaps("[", sign)

    def test_behind_a_comma(self):
        for sign in ")],+-*":
            self.with_gaps("f(a,", sign)
            self.with_gaps("[a,", sign)

    def test_behind_a_part(self):
        for part in ("b", "1", "g()", "[]", "(b)", "b*c"):
            self.with_gaps("f(a," + part, "]")
            self.with_gaps("[a," + part, ")")
            self.with_gaps("(" + part, "]")
            self.with_gaps("(" + part, ",")
            self.with_gaps("[" + part, "[")
            self.with_gaps("f((" + part, ",a))")

    def test_behind_a_whole_expression(self):
        for whole in ("a", "1", "0", "f()", "[]", "(a)", "a+b", "a*(b)"):
            for sign in ")],[":
                self.with_gaps(whole, sign)
        for whole in ("1", "0", "f()", "[]", "(a)", "a+1", "a*(b)"):
            self.with_gaps(whole, "(")
            self.with_gaps(whole, "(a)")
        for whole in ("f()", "[]", "(a)"):
            self.with_gaps(whole, "a")
            self.with_gaps(whole, "1")

    def test_a_row_behind_a_name_is_no_call(self):
        self.with_gaps("f", "[a]")

    def test_noughts_ahead_of_figures(self):
        self.check("00", 1)
        self.check("01", 1)
        self.check("007", 1)
        self.check("a+01", 3)
        self.check("f( 0123 )", 4)
        self.check("10+00", 4)
        self.check("[\n05]", 3)

    def test_two_names_or_numbers(self):
        for gap in (" ", "\n", "  \n"):
            self.check("ab" + gap + "cd", 2 + len(gap))
            self.check("12" + gap + "34", 2 + len(gap))
            self.check("0" + gap + "0", 1 + len(gap))
        self.with_gaps("ab", "12")
        self.with_gaps("12", "ab")
        self.with_gaps("f(ab", "1)")
        self.with_gaps("0", "a")
        self.check("a1", 1)
        self.check("1a", 1)
        self.check("a1(b)", 1)

    def test_signs_that_no_expression_has(self):
        known = "abcdefghijklmnopqrstuvwxyz0123456789()[],+-* "
        others = [chr(number) for number in range(32, 127) if number != 37 and chr(number) not in known]
        self.assertIn("A", others)
        self.assertIn("/", others)
        for sign in others:
            self.check(sign, 0)
            self.check("a" + sign, 1)
            self.check("a" + sign + "b", 1)
            self.check("12" + sign, 2)
            self.check("a + " + sign, 4)
            self.check("f(\n" + sign + ")", 3)
            self.check("[a" + sign + "]", 2)
            self.check("(a) " + sign, 4)
            self.check(" \n" + sign, 2)

    def test_the_twenty_first(self):
        for opening in ("(", "[", "f("):
            ahead = opening * 20
            for sign in ("(", "["):
                self.check(ahead + sign, len(ahead))
                self.check(ahead + " \n" + sign + "a", len(ahead) + 2)
            self.check(ahead + "f(", len(ahead) + 1)
            self.check(ahead + "f\n (", len(ahead) + 3)
            self.check(ahead + "f()", len(ahead) + 1)
            self.check(ahead + "a+(", len(ahead) + 2)
            self.check(ahead + "a*[", len(ahead) + 2)
        mixed = "([f(" * 6 + "(["
        self.check(mixed + "[]", len(mixed))
        self.check("(" * 21 + "a" + ")" * 21, 20)
        self.check("[" * 21 + "]" * 21, 20)
        self.check("f(" * 21 + ")" * 21, 41)
        self.check("(" * 4000, 20)

    def test_the_twenty_first_behind_others_that_are_closed(self):
        ahead = "[" * 19 + "(a),[],f(),"
        self.check(ahead + "((", len(ahead) + 1)
        self.check("(" * 20 + "a" + ")" * 20 + "*" + "[" * 21, 62)

    def test_closing_signs_of_the_wrong_kind(self):
        self.check("(a]", 2)
        self.check("[a)", 2)
        self.check("f(a]", 3)
        self.check("f(]", 2)
        self.check("[)", 1)
        self.check("[(a])", 3)
        self.check("([a)]", 3)
        self.check("f([a,b)", 6)

    def test_the_first_of_several_is_told(self):
        self.check("a b A )", 2)
        self.check("(]a)", 1)
        self.check("a++", 2)


class SecondWayTest(unittest.TestCase):
    """Many texts, held against a plain account of what may stand next, and against Python's own trees."""

    def wrong_place(self, text):
        enclosing = []
        wanted = "operand"
        place = 0
        last = ""
        while place < len(text):
            sign = text[place]
            here = place
            place += 1
            if sign in " \n":
                continue
            # No more than nine pieces are in a text here, so the twenty-first is never met.
            if wanted != "behind" and sign.isalpha():
                while place < len(text) and text[place].isalpha():
                    place += 1
                wanted, last = "behind", "name"
            elif wanted != "behind" and sign.isdigit():
                while sign != "0" and place < len(text) and text[place].isdigit():
                    place += 1
                wanted, last = "behind", "number"
            elif wanted != "behind" and sign in "([":
                enclosing.append("]" if sign == "[" else "bracket")
                wanted = "operand or end" if sign == "[" else "operand"
            elif wanted == "behind" and last == "name" and sign == "(":
                enclosing.append(")")
                wanted = "operand or end"
            elif wanted == "behind" and sign in "+-*":
                wanted = "operand"
            elif wanted == "behind" and sign == "," and enclosing and enclosing[-1] != "bracket":
                wanted = "operand"
            elif wanted != "operand" and enclosing and sign == enclosing[-1].replace("bracket", ")"):
                enclosing.pop()
                wanted, last = "behind", "closed"
            else:
                return here
        return None if wanted == "behind" and not enclosing else len(text)

    def tree_of(self, node):
        if isinstance(node, ast.Name):
            return ("name", node.id)
        if isinstance(node, ast.Constant):
            return ("number", node.value)
        if isinstance(node, ast.Call):
            return ("call", node.func.id, tuple(self.tree_of(part) for part in node.args))
        if isinstance(node, ast.List):
            return ("row", tuple(self.tree_of(part) for part in node.elts))
        sign = {ast.Add: "+", ast.Sub: "-", ast.Mult: "*"}[type(node.op)]
        return (sign, self.tree_of(node.left), self.tree_of(node.right))

    def check(self, text):
        place = self.wrong_place(text)
        if place is None:
            one_row = text.replace("\n", " ").strip()
            self.assertEqual(read(text), self.tree_of(ast.parse(one_row, mode="eval").body), repr(text))
            return 1
        with self.assertRaises(BadText, msg=repr(text)) as taken:
            read(text)
        self.assertEqual(taken.exception.place, place, repr(text))
        return 0

    def test_all_short_texts(self):
        texts = [""]
        for length in range(6):
            for text in texts:
                self.check(text)
            texts = [text + sign for text in texts for sign in "a0(),]+"] if length < 5 else []

    def test_many_longer_texts(self):
        source = random.Random(23)
        pieces = ["a", "b", "f(", "(", "[", ")", "]", ",", "+", "-", "*", "1", "0", " ", "\n", "f()", "[]", "+a", ",b"]
        good = 0
        with short_time(60):
            for number in range(20000):
                text = "".join([source.choice(pieces) for step in range(source.randrange(1, 9))])
                good += self.check(text)
        self.assertGreater(good, 300)

    def test_the_same_tree_each_time(self):
        text = "f(a, [1, b]) * (c - 2)"
        self.assertEqual([read(text) for again in range(3)], [read(text)] * 3)
