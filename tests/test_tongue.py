"""rungfields.tongue: promises [2] and [22]."""

import inspect
import itertools
import random
import re
import unittest

from rungfields.errors import BadText
from rungfields.tongue import read, write

A, B, C, D = [("name", name) for name in "abcd"]
BOTH = {"plus": "+", "minus": "-", "times": "*", "over": "/"}
TOKEN = re.compile(r"[A-Za-z0-9]+|[^ ]")


def parts(tree):
    """How many parts a tree has, itself counted."""
    if tree[0] in ("name", "number"):
        return 1
    if tree[0] in BOTH:
        return 1 + parts(tree[1]) + parts(tree[2])
    return 1 + parts(tree[1])


def some_tree(chance, most):
    """Some tree of as many parts at most."""
    kind = chance.choice(["name", "number", "power", "turned", "both", "both", "both"]) if most > 2 else "name"
    if kind == "name":
        return "name", "".join(chance.choice("abcxyz") for _ in range(chance.randint(1, 8)))
    if kind == "number":
        return "number", chance.choice((0, 1, 7, 10, 999999, chance.randrange(10**6)))
    if kind == "power":
        return "power", some_tree(chance, most - 1), chance.choice((0, 1, -1, 2, -999999, 999999))
    if kind == "turned":
        return "turned", some_tree(chance, most - 1)
    first = some_tree(chance, (most - 1) // 2)
    return chance.choice(list(BOTH)), first, some_tree(chance, most - 1 - parts(first))


def all_trees(most):
    """All trees of at most so many parts over one name, one number and one exponent."""
    by_count = {1: [A, ("number", 2)]}
    for count in range(2, most + 1):
        told = [("turned", tree) for tree in by_count[count - 1]]
        told += [("power", tree, -3) for tree in by_count[count - 1]]
        for first in range(1, count - 1):
            for kind in BOTH:
                told += [(kind, *pair) for pair in itertools.product(by_count[first], by_count[count - 1 - first])]
        by_count[count] = told
    return [tree for told in by_count.values() for tree in told]


def plain(tree):
    """A text with all brackets that may stand."""
    kind = tree[0]
    if kind == "name":
        return f"({tree[1]})"
    if kind == "number":
        return f"({tree[1]})"
    if kind == "turned":
        return f"({plain(tree[1])}')"
    if kind == "power":
        return f"({plain(tree[1])}^{tree[2]})"
    return f"({plain(tree[1])}{BOTH[kind]}{plain(tree[2])})"


def tokens(text):
    return [match.group() for match in TOKEN.finditer(text)]


def without(text, pair):
    """A text without the signs at two places."""
    return "".join(sign for at, sign in enumerate(text) if at not in pair)


class Case(unittest.TestCase):
    def bad(self, text, at):
        with self.assertRaises(BadText, msg=repr(text)) as caught:
            read(text)
        self.assertEqual(caught.exception.word, "BadText")
        self.assertEqual(caught.exception.at, at, repr(text))


class Read(Case):
    def test_each_kind(self):
        for text, tree in (
            ("a", A), ("abcdefgh", ("name", "abcdefgh")), ("z", ("name", "z")), ("0", ("number", 0)),
            ("7", ("number", 7)), ("10", ("number", 10)), ("999999", ("number", 999999)),
            ("a + b", ("plus", A, B)), ("a - b", ("minus", A, B)), ("a * b", ("times", A, B)), ("a / b", ("over", A, B)),
            ("a^2", ("power", A, 2)), ("a^-2", ("power", A, -2)), ("a^0", ("power", A, 0)), ("a^-0", ("power", A, 0)),
            ("a^999999", ("power", A, 999999)), ("a^-999999", ("power", A, -999999)), ("a'", ("turned", A)),
            ("5'", ("turned", ("number", 5))), ("2^3", ("power", ("number", 2), 3)),
        ):
            self.assertEqual(read(text), tree, text)

    def test_what_goes_ahead(self):
        for text, tree in (
            ("a + b * c", ("plus", A, ("times", B, C))), ("a * b + c", ("plus", ("times", A, B), C)),
            ("a - b / c", ("minus", A, ("over", B, C))), ("a / b - c", ("minus", ("over", A, B), C)),
            ("(a + b) * c", ("times", ("plus", A, B), C)), ("a * (b + c)", ("times", A, ("plus", B, C))),
            ("a * b^2", ("times", A, ("power", B, 2))), ("a + b'", ("plus", A, ("turned", B))),
            ("(a + b)'", ("turned", ("plus", A, B))), ("(a * b)^-1", ("power", ("times", A, B), -1)),
            ("a * b + c * d", ("plus", ("times", A, B), ("times", C, D))),
            ("a + b * c - d", ("minus", ("plus", A, ("times", B, C)), D)),
        ):
            self.assertEqual(read(text), tree, text)

    def test_like_ones_from_the_left_to_the_right(self):
        for first, second in (("+", "+"), ("+", "-"), ("-", "+"), ("-", "-"), ("*", "*"), ("*", "/"), ("/", "*"), ("/", "/")):
            kinds = {sign: kind for kind, sign in BOTH.items()}
            self.assertEqual(read(f"a {first} b {second} c"), (kinds[second], (kinds[first], A, B), C))
            self.assertEqual(read(f"a {first} (b {second} c)"), (kinds[first], A, (kinds[second], B, C)))

    def test_powers_and_turns_behind_another_such(self):
        self.assertEqual(read("a''"), ("turned", ("turned", A)))
        self.assertEqual(read("a'^2"), ("power", ("turned", A), 2))
        self.assertEqual(read("a^2'"), ("turned", ("power", A, 2)))
        self.assertEqual(read("a^2^-3"), ("power", ("power", A, 2), -3))
        self.assertEqual(read("(a)'^-1'"), ("turned", ("power", ("turned", A), -1)))

    def test_needless_brackets(self):
        self.assertEqual(read("((a))"), A)
        self.assertEqual(read("(a) + ((b) * (c))"), ("plus", A, ("times", B, C)))
        self.assertEqual(read("((a + b))'"), ("turned", ("plus", A, B)))
        for tree in all_trees(4):
            self.assertEqual(read(plain(tree)), tree)

    def test_sixty_brackets_deep(self):
        for deep in (59, 60, 100, 190):
            self.assertEqual(read("(" * deep + "a" + ")" * deep), A)
        nested = "(" * 19 + "a" + "".join(" + b)" for _ in range(19))
        tree = A
        for _ in range(19):
            tree = ("plus", tree, B)
        self.assertEqual(read(nested), tree)

    def test_blanks_at_all_places_where_they_may_stand(self):
        text = "( a + bc ) ' * 12 ^ - 3 / ( d - 1 ) ^ 2 '"
        words = tokens(text)
        tree = read(text)
        self.assertEqual(tree, read("".join(words)))
        for at in range(len(words) + 1):
            for blanks in (" ", "   "):
                self.assertEqual(read("".join(words[:at]) + blanks + "".join(words[at:])), tree)
        self.assertEqual(read("  " + "  ".join(words) + "  "), tree)

    def test_kinds_of_values(self):
        tree = read("a^2 + 3")
        self.assertIs(type(tree), tuple)
        self.assertIs(type(tree[1]), tuple)
        self.assertIs(type(tree[1][2]), int)
        self.assertIs(type(tree[2][1]), int)


class Refused(Case):
    def test_at_the_first_word_or_sign_that_can_not_stand_there(self):
        for text, at in (
            ("-a", 0), ("+a", 0), ("*", 0), (")", 0), ("^2", 0), ("'", 0), ("a b", 2), ("a 2", 2), ("2 a", 2), ("2 3", 2),
            ("a + + b", 4), ("a + * b", 4), ("a - - b", 4), ("a * - b", 4), ("a ++ b", 3), ("a (b)", 2), ("(a) b", 4),
            ("(a)(b)", 3), ("()", 1), ("a + ()", 5), ("a)", 1), ("(a))", 3), ("(a + )", 5), ("(a +) b", 4), ("a^b", 2),
            ("a^(2)", 2), ("a^+2", 2), ("a^--2", 3), ("a^-b", 3), ("a^'", 2), ("a^^2", 2), ("a^2 3", 4), ("a' b", 3),
            ("a'2", 2), ("a + b c + d e", 6), ("a ** b", 3), ("a // b", 3), ("a / / b", 4), ("a + ' + b", 4), ("a = b", 2),
            ("a, b", 1), ("a.b", 1), ("a_b", 1), ("a!", 1), ("[a]", 0), ("{a}", 0), ("a\"", 1), ("`a`", 0), ("~a", 0),
            ("a ~", 2), ("#", 0), ("a + $", 4), ("a & b", 2), ("a < b", 2), ("a;", 1), ("a:b", 1), ("a?", 1), ("@", 0),
            ("\\", 0), ("a | b", 2),
        ):
            self.bad(text, at)

    def test_words_that_are_neither_name_nor_number(self):
        for word in (
            "abcdefghi", "abcdefghijklm", "A", "aB", "Ab", "ABC", "a1", "1a", "a1b", "2x", "x2", "00", "01", "007",
            "0123456", "1234567", "1000000", "99999999999", "0a", "a0",
        ):
            self.bad(word, 0)
            self.bad(f"  {word}", 2)
            self.bad(f"a + {word} * b", 4)
            self.bad(f"({word})", 1)
            self.bad(f"a {word}", 2)
            self.bad(f"a^{word}", 2)
            self.bad(f"a^-{word} + b", 3)

    def test_letters_and_figures_of_other_alphabets(self):
        for sign in ("\u00e9", "\u00b2", "\u0663", "\uff41", "\u03b1", "\u00a0", "\t", "%"):
            self.bad(sign, 0)
            self.bad(f"a{sign}", 1)
            self.bad(f"a^2{sign}", 3)
            self.bad(f"a + {sign}a", 4)

    def test_a_name_is_no_exponent(self):
        self.bad("a^bc", 2)
        self.bad("a ^ - bc", 6)

    def test_line_feeds(self):
        for text, at in (("a\n", 1), ("\na", 0), ("a +\nb", 3), ("a\n+ b", 1), ("\n", 0), ("a^\n2", 2), ("a\nb", 1), ("(\n", 1)):
            self.bad(text, at)

    def test_where_it_ends_too_early(self):
        for text in (
            "", " ", "    ", "(", "((", "a +", "a + ", "a *", "a^", "a^-", "a ^ -  ", "(a", "(a + b", "((a)", "a + (b * (c)",
            "a - (", "(a)' + ", "a^2 /",
        ):
            self.bad(text, len(text))

    def test_forty_parts_and_forty_one(self):
        self.assertEqual(parts(read("a" + "'" * 39)), 40)
        self.bad("a" + "'" * 40, 40)
        self.bad("a" + "'" * 60, 40)
        self.assertEqual(parts(read("a" + "^2" * 39)), 40)
        self.bad("a" + "^2" * 40, 79)
        self.assertEqual(parts(read("a" + " + a" * 19)), 39)
        self.assertEqual(parts(read("a" + " + a" * 19 + "'")), 40)
        self.assertEqual(parts(read("a'" + " * 12" * 19)), 40)
        text = "a" + " + a" * 19 + "'"
        self.bad(text + "'", len(text))
        self.bad(text + " + a", len(text) + 1)
        self.bad(text + "^2", len(text))
        self.bad(text + " a", len(text) + 1)

    def test_a_sign_behind_which_no_part_finds_room(self):
        text = "a" + " + a" * 19
        self.bad(text + " + a", len(text) + 1)
        self.bad(text + " +", len(text) + 1)
        self.bad("(" * 5 + text + ")" * 5 + " * b", len(text) + 11)
        self.assertEqual(parts(read("(" * 5 + text + ")" * 5 + "'")), 40)

    def test_brackets_and_exponents_are_no_parts(self):
        self.assertEqual(parts(read("((((a))))" + "^-12" * 39)), 40)
        self.assertEqual(parts(read("(" * 60 + "a" + "')" * 39 + ")" * 21)), 40)

    def test_every_text_of_few_signs_against_a_pattern(self):
        # what is no formula is refused at the first place from which on no text goes on to one
        signs = ["a", "2", "+", "*", "^", "'", "(", ")", "-"]
        good = set()
        for count in range(1, 6):
            for words in itertools.product(signs, repeat=count):
                try:
                    read(" ".join(words))
                except BadText as error:
                    self.assertLessEqual(error.at, len(" ".join(words)))
                else:
                    good.add(words)
        begun = {words[:at] for words in good for at in range(len(words) + 1)}
        for count in range(1, 4):
            for words in itertools.product(signs, repeat=count):
                if words not in good:
                    first = next((at for at in range(count) if words[:at + 1] not in begun), None)
                    # a begun text of three words may want more words than two to be whole
                    if first is None:
                        self.bad(" ".join(words), 2 * count - 1)
                    elif first < 2:
                        self.bad(" ".join(words), 2 * first)


class Write(Case):
    def test_plain_ones(self):
        for text in (
            "a", "0", "12", "a + b", "a - b", "a * b", "a / b", "a^2", "a^-2", "a'", "a + b * c", "(a + b) * c",
            "a - (b - c)", "a - b - c", "a / (b * c)", "a / b / c", "a * (b * c)", "(a + b)'", "(a * b)^-3", "a'^2'",
            "a^2^3", "a + (b + c)", "a * b + c * d", "(a - b) / (c + d)", "a * b'", "2 * a^2 - 3 / b",
        ):
            self.assertEqual(write(read(text)), text)

    def test_all_small_trees_and_no_brackets_left_out(self):
        for tree in all_trees(5):
            self.check(tree)

    def check(self, tree):
        text = write(tree)
        self.assertIs(type(text), str)
        self.assertEqual(read(text), tree)
        self.assertEqual(text, " ".join(text.split()))
        words = tokens(text)
        # blanks just on both sides of the four signs, but for one that is told ahead of an exponent
        spaced = ""
        for at, word in enumerate(words):
            spaced += f" {word} " if word in BOTH.values() and words[at - 1] != "^" else word
        self.assertEqual(text, spaced)
        opens = []
        for at, sign in enumerate(text):
            if sign == "(":
                opens.append(at)
            elif sign == ")":
                shorter = without(text, (opens.pop(), at))
                try:
                    other = read(shorter)
                except BadText:
                    continue
                self.assertNotEqual(other, tree, text)

    def test_great_trees(self):
        chance = random.Random(22)
        deepest = 0
        for _ in range(400):
            tree = some_tree(chance, 40)
            deepest = max(deepest, parts(tree))
            self.check(tree)
        self.assertGreater(deepest, 30)

    def test_deep_trees(self):
        left = right = turned = A
        for _ in range(19):
            left, right = ("minus", left, B), ("minus", B, right)
        for _ in range(39):
            turned = ("turned", turned)
        for tree in (left, right, turned):
            self.check(tree)
        self.assertEqual(write(right), "b - (" * 18 + "b - a" + ")" * 18)

    def test_what_was_read(self):
        chance = random.Random(122)
        for _ in range(100):
            tree = some_tree(chance, 20)
            words = tokens(write(tree))
            blanks = "".join(word + " " * chance.randrange(3) for word in words)
            self.assertEqual(write(read(blanks)), write(tree))
            if len(plain(tree)) < 400:
                self.assertEqual(write(read(plain(tree))), write(tree))


class Interface(Case):
    def test_names_of_what_is_handed_in(self):
        self.assertEqual(str(inspect.signature(read)), "(text)")
        self.assertEqual(str(inspect.signature(write)), "(tree)")
        self.assertEqual((read.__module__, write.__module__), ("rungfields.tongue",) * 2)
        self.assertEqual(write(tree=read(text="a+b")), "a + b")


if __name__ == "__main__":
    unittest.main()
