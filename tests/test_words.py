import copy
import itertools
import unittest

from support import Case
from sayswho.errors import NoRow
from sayswho.words import expression, is_name, number_of, worth

TAKEN = ("box", "mark", "ask", "put", "go", "if", "stop", "in", "not")
LETTERS = "abcdefghijklmnopqrstuvwxyz"
OTHER_SIGNS = " !\"#$&'()*+,-./:;<=>?@[\\]^_`{|}~\n"
THOUSANDS = 5000


def number(n):
    return ("number", n)


def box(name):
    return ("box", name)


A = box("a")
B = box("b")
C = box("c")
D = box("d")


def chain(e, count):
    for _ in range(count):
        e = ("+", e, A)
    return e


class Names(Case):
    def test_lengths(self):
        for length in range(1, 9):
            self.assertIs(is_name("q" * length), True, length)
        for length in (0, 9, 10, 60, THOUSANDS):
            self.assertIs(is_name("q" * length), False, length)
        self.assertIs(is_name("abcdefgh"), True)
        self.assertIs(is_name("abcdefghi"), False)

    def test_each_small_letter_at_each_place(self):
        for letter in LETTERS:
            for word in (letter, letter + "qq", "q" + letter + "q", "qq" + letter):
                self.assertIs(is_name(word), True, word)

    def test_the_nine_words_are_none(self):
        for word in TAKEN:
            self.assertIs(is_name(word), False, word)

    def test_the_nine_words_with_a_letter_more_or_less(self):
        for word in TAKEN:
            near = [letter + word for letter in LETTERS] + [word + letter for letter in LETTERS]
            near += [word[1:], word[:-1], word + word]
            for other in near:
                if other not in TAKEN:
                    self.assertIs(is_name(other), True, other)

    def test_other_signs_at_each_place(self):
        for sign in LETTERS.upper() + "0123456789" + OTHER_SIGNS:
            for word in (sign, sign + "ab", "a" + sign + "b", "ab" + sign, sign + "abcdefg", "abcdefg" + sign):
                self.assertIs(is_name(word), False, repr(word))

    def test_the_nine_words_otherwise_written(self):
        for word in TAKEN:
            for other in (word.upper(), word.capitalize(), " " + word, word + " ", word + "\n"):
                self.assertIs(is_name(other), False, repr(other))


class Numbers(Case):
    def test_each_number(self):
        for n in range(-999, 1000):
            self.just(number_of(str(n)), n)

    def test_noughts_ahead(self):
        for word in ("00", "000", "01", "09", "001", "010", "099", "-01", "-00", "-001", "-000", "-010"):
            self.refused(NoRow, number_of, word)

    def test_nought_with_a_sign_ahead(self):
        self.refused(NoRow, number_of, "-0")

    def test_too_many_figures(self):
        for word in ("1000", "9999", "0000", "0001", "-1000", "-9999", "12345", "1" * THOUSANDS,
                     "-" + "1" * THOUSANDS, "0" * THOUSANDS):
            self.refused(NoRow, number_of, word)

    def test_signs_ahead(self):
        for word in ("-", "--", "--1", "--0", "---1", "+1", "+0", "+", "-+1", "+-1", "-" * THOUSANDS):
            self.refused(NoRow, number_of, word)

    def test_no_figures_at_all(self):
        for word in ("", "a", "one", "-a", "box", " ", "\n"):
            self.refused(NoRow, number_of, word)

    def test_other_signs_at_each_place(self):
        for sign in LETTERS + LETTERS.upper() + OTHER_SIGNS.replace("-", ""):
            for word in (sign, sign + "1", "1" + sign, "1" + sign + "2", "-" + sign + "1", "-1" + sign, "12" + sign):
                self.refused(NoRow, number_of, word)

    def test_a_minus_behind(self):
        for word in ("1-", "1-2", "12-", "-1-"):
            self.refused(NoRow, number_of, word)


class Expressions(Case):
    def tells(self, word, e):
        with self.subTest(word=word):
            self.just(expression(word), e)

    def refuses(self, *words):
        for word in words:
            with self.subTest(word=word[:80]):
                self.refused(NoRow, expression, word)

    def test_numbers(self):
        for n in range(0, 1000):
            self.just(expression(str(n)), ("number", n))

    def test_names(self):
        for name in ("a", "z", "ab", "abcdefgh", "boxx", "i", "nots"):
            self.tells(name, ("box", name))
        for letter in LETTERS:
            for name in (letter, letter + "q", "q" + letter, "qq" + letter + "qq"):
                self.tells(name, box(name))
                self.tells("(" + name + ")*2", ("*", box(name), number(2)))

    def test_each_sign(self):
        self.tells("a+b", ("+", A, B))
        self.tells("a-b", ("-", A, B))
        self.tells("a*b", ("*", A, B))
        self.tells("12+abc", ("+", number(12), box("abc")))
        self.tells("abc-0", ("-", box("abc"), number(0)))
        self.tells("999*999", ("*", number(999), number(999)))

    def test_like_signs_go_from_left_to_right(self):
        for first, second in itertools.product("+-", "+-"):
            self.tells("a" + first + "b" + second + "c", (second, (first, A, B), C))
        self.tells("a*b*c", ("*", ("*", A, B), C))
        self.tells("a-b-c-d", ("-", ("-", ("-", A, B), C), D))
        self.tells("a*b*c*d", ("*", ("*", ("*", A, B), C), D))

    def test_products_come_ahead(self):
        for sign in "+-":
            self.tells("a" + sign + "b*c", (sign, A, ("*", B, C)))
            self.tells("a*b" + sign + "c", (sign, ("*", A, B), C))
            self.tells("a*b" + sign + "c*d", (sign, ("*", A, B), ("*", C, D)))
            self.tells("a" + sign + "b*c*d", (sign, A, ("*", ("*", B, C), D)))
        self.tells("a-b*c+d", ("+", ("-", A, ("*", B, C)), D))
        self.tells("a+b*c-d", ("-", ("+", A, ("*", B, C)), D))

    def test_brackets_that_are_needed(self):
        self.tells("(a+b)*c", ("*", ("+", A, B), C))
        self.tells("a*(b+c)", ("*", A, ("+", B, C)))
        self.tells("a-(b-c)", ("-", A, ("-", B, C)))
        self.tells("a-(b+c)", ("-", A, ("+", B, C)))
        self.tells("a+(b+c)", ("+", A, ("+", B, C)))
        self.tells("a*(b*c)", ("*", A, ("*", B, C)))
        self.tells("(a-b)*(c+d)", ("*", ("-", A, B), ("+", C, D)))
        self.tells("a*(b-(c+1)*d)", ("*", A, ("-", B, ("*", ("+", C, number(1)), D))))

    def test_brackets_that_are_not_needed(self):
        self.tells("(a)", A)
        self.tells("(7)", number(7))
        self.tells("((a))", A)
        self.tells("(a+b)", ("+", A, B))
        self.tells("(a+b)+c", ("+", ("+", A, B), C))
        self.tells("a+(b*c)", ("+", A, ("*", B, C)))
        self.tells("(a)*(b)", ("*", A, B))

    def test_brackets_within_one_another(self):
        for depth in range(6):
            self.tells("(" * depth + "a" + ")" * depth, A)
        self.refuses(*["(" * depth + "a" + ")" * depth for depth in (6, 7, 20, 29)])
        self.tells("a+(b-(c*(d+(1-(2*3)))))",
                   ("+", A, ("-", B, ("*", C, ("+", D, ("-", number(1), ("*", number(2), number(3))))))))
        self.refuses("a+(b-(c*(d+(1-(2*(3))))))", "((((((a)+b)+c)+d)+1)+2)", "a*(((((b+(c))))))")

    def test_brackets_beside_one_another(self):
        self.tells("(a)+(b)+(c)+(d)+(1)+(2)",
                   ("+", ("+", ("+", ("+", ("+", A, B), C), D), number(1)), number(2)))
        self.tells("(((((a)))))*(((((b)))))", ("*", A, B))
        self.tells("(((((a))+b)))-((((c))))", ("-", ("+", A, B), C))

    def test_sixty_signs_and_more(self):
        self.tells("a" + "+a" * 29, chain(A, 29))
        self.tells("ab" + "+a" * 29, chain(box("ab"), 29))
        self.tells("a" + "+a" * 28 + "-12", ("-", chain(A, 28), number(12)))
        self.tells("(ab" + "+a" * 28 + ")", chain(box("ab"), 28))
        self.refuses("abc" + "+a" * 29, "a" + "+a" * 30, "a" + "+a" * 28 + "-123", "a*" * 30 + "a",
                     "(abc" + "+a" * 28 + ")", "((" + "a" + "+a" * 28 + "))")

    def test_a_minus_ahead_of_a_factor(self):
        self.refuses("-1", "-a", "-0", "-(a)", "a+-1", "a--1", "a*-1", "a--b", "(-1)", "(-a)", "a*(-b)", "+1", "+a")

    def test_signs_lacking(self):
        self.refuses("ab(c)", "a(b)", "(a)b", "(a)(b)", "2(a)", "(a)2", "2a", "a2", "a2b", "2a3", "ab1", "1(2)")

    def test_signs_twice_and_at_the_ends(self):
        for first, second in itertools.product("+-*", "+-*"):
            self.refuses("a" + first + second + "b")
        for sign in "+-*":
            self.refuses(sign, sign + "a", "a" + sign, "a+b" + sign, sign + "(a)", "(a)" + sign, "(a" + sign + ")",
                         "(" + sign + "a)", "a*(b" + sign + ")", "1" + sign, sign + "1")

    def test_brackets_empty_and_unlike(self):
        self.refuses("()", "(())", "a+()", "a()", "()a", "a*()*b")
        self.refuses("(", "(a", "((a)", "a+(b", "(a+b", "a(", "(a)+(b", "(a+(b)")
        self.refuses(")", "a)", "(a))", "a)+b", "a+b)", ")a(", "a)(b", "(a)+b)", ")(")
        self.refuses("[a]", "{a}", "(a]")
        for sign in LETTERS + "0123456789" + OTHER_SIGNS.replace(")", ""):
            self.refuses("(q)" + sign, "(a+(b)" + sign, "((a)" + sign)
            self.refuses(*["(1" + sign, "(a)+(1" + sign])

    def test_names_that_are_none(self):
        for word in TAKEN:
            self.refuses(word, "a+" + word, word + "*a", "(" + word + ")", "a-(1*" + word + ")")
        self.refuses("abcdefghi", "a+abcdefghi", "A", "a+B", "aB", "Ab", "(A)", "a_b", "_a", "a_")

    def test_numbers_that_are_none(self):
        self.refuses("1000", "a+1000", "00", "01", "a+01", "007", "(00)", "0000", "a*1234", "1_0", "1.0", "0x1", "1e1")

    def test_other_signs(self):
        for sign in OTHER_SIGNS.replace("(", "").replace(")", "").replace("*", "").replace("+", "").replace("-", ""):
            self.refuses(sign, sign + "a", "a" + sign, "a" + sign + "b", "a+" + sign + "b", "a" + sign + "+b",
                         "(" + sign + "a)", "(a" + sign + ")", "1" + sign, sign + "1", "1" + sign + "2")
        self.refuses("a**b", "a//b", "a<b", "a=b")

    def test_blanks_and_line_feeds(self):
        self.refuses("", " ", "\n", " a", "a ", "a + b", "a +b", "a+ b", "( a)", "a\n", "\na", "a\n+b", "a+b\n", "1\n",
                     "(a)\n", "a b", "1 2")

    def test_words_of_some_thousands_of_signs(self):
        for sign in "()+-*a1 \n_A0<":
            self.refuses(sign * THOUSANDS, sign * 61)
        self.refuses("a" + "+a" * THOUSANDS, "a" + "*a" * THOUSANDS, "a" + "-1" * THOUSANDS,
                     "(" * THOUSANDS + "a" + ")" * THOUSANDS, "a+(" * THOUSANDS + "a" + ")" * THOUSANDS,
                     "(a)" * THOUSANDS, "a+" * THOUSANDS, "()" * THOUSANDS, "(a+" * THOUSANDS, "((a)+" * THOUSANDS)


class Worths(Case):
    def is_worth(self, word, values, n):
        with self.subTest(word=word, values=values):
            self.just(worth(expression(word), values), n)

    def test_numbers_and_names(self):
        self.just(worth(("number", 0), {}), 0)
        self.just(worth(("number", 999), {"a": 3}), 999)
        self.just(worth(("box", "a"), {"a": 3, "b": 4}), 3)
        self.just(worth(("box", "b"), {"a": 3, "b": -4}), -4)
        self.just(worth(("box", "number"), {"number": 5, "a": 6}), 5)

    def test_each_sign(self):
        values = {"a": 7, "b": 3}
        self.just(worth(("+", A, B), values), 10)
        self.just(worth(("-", A, B), values), 4)
        self.just(worth(("-", B, A), values), -4)
        self.just(worth(("*", A, B), values), 21)

    def test_order_and_brackets(self):
        values = {"a": 2, "b": 3, "c": 5, "d": 7}
        self.is_worth("a+b*c", values, 17)
        self.is_worth("(a+b)*c", values, 25)
        self.is_worth("d-c-b", values, -1)
        self.is_worth("d-(c-b)", values, 5)
        self.is_worth("d-c+b", values, 5)
        self.is_worth("d-(c+b)", values, -1)
        self.is_worth("a*b-c*d", values, -29)
        self.is_worth("a*(b-(c+1)*d)", values, -78)
        self.is_worth("((((d-c)*b)-a)*10)+1", values, 41)

    def test_below_nought(self):
        values = {"a": -2, "b": -3, "c": 0}
        self.is_worth("a+b", values, -5)
        self.is_worth("a-b", values, 1)
        self.is_worth("b-a", values, -1)
        self.is_worth("a*b", values, 6)
        self.is_worth("a*3", values, -6)
        self.is_worth("c-a", values, 2)
        self.is_worth("c*a", values, 0)
        self.is_worth("3-5", {}, -2)

    def test_great_ones(self):
        great = 10 ** 30 - 1
        values = {"a": great, "b": -great}
        self.is_worth("a*a+1", values, great * great + 1)
        self.is_worth("a+b", values, 0)
        self.is_worth("a-b", values, 2 * great)
        self.is_worth("a*b", values, -(great * great))
        self.is_worth("a" + "*a" * 29, values, great ** 30)
        self.is_worth("a" + "-a" * 29, values, -28 * great)
        self.is_worth("a" + "*a" * 29, {"a": 999}, 999 ** 30)

    def test_each_expression_of_four_names(self):
        values = {"a": 5, "b": -7, "c": 11, "d": 3}
        for signs in itertools.product("+-*", repeat=3):
            for shape in ("a{}b{}c{}d", "(a{}b){}c{}d", "a{}(b{}c){}d", "a{}b{}(c{}d)", "(a{}b{}c){}d", "a{}(b{}c{}d)",
                          "(a{}b){}(c{}d)", "a{}(b{}(c{}d))", "((a{}b){}c){}d"):
                word = shape.format(*signs)
                self.is_worth(word, values, eval(word, {}, dict(values)))

    def test_what_is_handed_in_stays(self):
        values = {"a": 2, "b": -3}
        e = expression("a*(b-1)+2")
        for _ in range(2):
            self.just(worth(e, values), -6)
            self.just(values, {"a": 2, "b": -3})
            self.just(e, ("+", ("*", A, ("-", B, number(1))), number(2)))

    def test_values_changed_behind_count(self):
        values = {"a": 2}
        e = expression("a+1")
        self.just(worth(e, values), 3)
        values["a"] = 9
        self.just(worth(e, values), 10)

    def test_told_again_the_same(self):
        for word in ("a-b-c", "(a+1)*2", "7"):
            first = copy.deepcopy(expression(word))
            self.just(expression(word), first)


if __name__ == "__main__":
    unittest.main()
