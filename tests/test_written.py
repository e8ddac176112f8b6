import itertools
import random
import unittest

import chance
from deltaloom.errors import FormError, LoomError
from deltaloom.written import (
    format_bag, format_change, format_row, format_value, parse_bag, parse_change, parse_row,
)
from plain_written import is_bag, is_change, is_row
from sharing import check_call

LOWEST, HIGHEST = -2147483648, 2147483647
FORMATS = {parse_row: format_row, parse_bag: format_bag, parse_change: format_change}
CHECKS = {parse_row: is_row, parse_bag: is_bag, parse_change: is_change}
# All characters that a text may have, and some that it may not.
PERMITTED = [chr(k) for k in range(32, 127) if chr(k) not in '%"']
BARRED = ["%", "\n", "\t", "\r", "\0", chr(31), chr(127), chr(128), chr(160), "\u00e9", "\u0661", "\u2028", "\U0001f600"]


class WrittenCase(unittest.TestCase):
    def check(self, parse, thing, text):
        """The thing and its written form, there and back."""
        self.assertEqual(FORMATS[parse](thing), text)
        found = parse(text)
        self.assertEqual(found, thing)
        self.assertIs(type(found), type(thing))
        self.assertTrue(CHECKS[parse](text))

    def check_wrong(self, parse, *texts):
        for text in texts:
            with self.assertRaises(FormError, msg=text) as caught:
                parse(text)
            self.assertIsInstance(caught.exception, LoomError)
            self.assertFalse(CHECKS[parse](text), text)

    def check_any(self, parse, text):
        """FormError, or the written form of what is returned; as the regular expressions say."""
        try:
            found = parse(text)
        except FormError:
            self.assertFalse(CHECKS[parse](text), text)
        else:
            self.assertEqual(FORMATS[parse](found), text)
            self.assertTrue(CHECKS[parse](text), text)


class Examples(WrittenCase):
    def test_the_examples_of_the_interface(self):
        self.assertEqual(format_change([("edge", [((1, 2), 1), ((1, "b"), -2)])]), 'edge {(1, 2): 1, (1, "b"): -2}')
        self.assertEqual(parse_change('edge {(1, 2): 1, (1, "b"): -2}'), [("edge", [((1, 2), 1), ((1, "b"), -2)])])
        self.check_wrong(parse_change, "edge {(1): 01}")


class Values(WrittenCase):
    def test_values(self):
        self.assertEqual(format_value(0), "0")
        self.assertEqual(format_value(-17), "-17")
        self.assertEqual(format_value(LOWEST), "-2147483648")
        self.assertEqual(format_value("17"), '"17"')
        self.assertEqual(format_value(""), '""')
        self.assertEqual(format_value("a, b"), '"a, b"')

    def test_integers_at_the_ends_of_the_range(self):
        for n in (0, 1, -1, 9, 10, 100, -100, HIGHEST, HIGHEST - 1, LOWEST, LOWEST + 1):
            self.check(parse_row, (n,), f"({n})")
        self.check_wrong(parse_row, "(2147483648)", "(-2147483649)", "(2147483650)", "(9999999999)", "(-9999999999)")
        for n in (HIGHEST + 1, LOWEST - 1, 4294967296, 10 ** 29, 10 ** 30, 10 ** 31, -(10 ** 30), 10 ** 400):
            self.check_wrong(parse_row, f"({n})", f"(1, {n})")

    def test_very_long_integers(self):
        self.check_wrong(parse_row, "(" + "1" * 5000 + ")", "(-" + "1" * 5000 + ")", "(" + "0" * 5000 + ")")
        self.check_wrong(parse_bag, "{(1): " + "1" * 5000 + "}")

    def test_integers_in_another_form(self):
        self.check_wrong(
            parse_row, "(00)", "(01)", "(-01)", "(-0)", "(+1)", "(+0)", "(--1)", "(-)", "(- 1)", "(1_0)", "(0x1)", "(1.0)",
            "(1e3)", "(\u0661)", "(\u00b2)", "(1-)", "(1-1)", "(True)", "(None)",
        )

    def test_texts(self):
        for text in ("", " ", "  a  ", "0", "-1", "(1, 2)", "{}", ", ", "; ", ": ", "'", "\\", "\\n", "a\\", "~", "!"):
            self.check(parse_row, (text,), f'("{text}")')
            self.check(parse_row, (text, text), f'("{text}", "{text}")')

    def test_texts_of_40_and_41_characters(self):
        for c in ("a", " ", ",", "~"):
            self.check(parse_row, (c * 40,), '("' + c * 40 + '")')
            self.check(parse_row, (c * 39,), '("' + c * 39 + '")')
            self.check_wrong(parse_row, '("' + c * 41 + '")', '("' + c * 100 + '")')

    def test_characters(self):
        for c in PERMITTED:
            self.check(parse_row, (c,), f'("{c}")')
            self.check(parse_row, ("a" + c + "b",), f'("a{c}b")')
        for c in BARRED:
            self.check_wrong(parse_row, f'("{c}")', f'("a{c}b")', f'("{c * 40}")')
        self.check_wrong(parse_row, '(""")', '("a"b")', '("\\"")', '(""")')

    def test_quotes_that_are_missing_or_of_another_kind(self):
        self.check_wrong(parse_row, '("a)', '(a")', "(a)", "('a')", '("a"', '("', '"', '("a""b")', '("a" "b")')


class Rows(WrittenCase):
    def test_rows(self):
        self.check(parse_row, (), "()")
        self.check(parse_row, (5,), "(5)")
        self.check(parse_row, ("b",), '("b")')
        self.check(parse_row, (1, "b", -2), '(1, "b", -2)')

    def test_rows_of_8_and_9_values(self):
        self.check(parse_row, tuple(range(8)), "(0, 1, 2, 3, 4, 5, 6, 7)")
        self.check(parse_row, ("",) * 8, "(" + ", ".join(['""'] * 8) + ")")
        self.check_wrong(parse_row, "(0, 1, 2, 3, 4, 5, 6, 7, 8)", "(" + ", ".join(['""'] * 9) + ")", "(" + "1, " * 50 + "1)")

    def test_longer_rows_and_texts_are_written_without_an_error(self):
        self.assertEqual(format_row(tuple(range(9))), "(0, 1, 2, 3, 4, 5, 6, 7, 8)")
        self.assertEqual(format_row(("a" * 41, 2147483648)), '("' + "a" * 41 + '", 2147483648)')

    def test_other_forms(self):
        self.check_wrong(
            parse_row, "", " ", "(", ")", "( )", "(1,)", "(1, )", "(,)", "(, 1)", "(1,2)", "(1,  2)", "(1 , 2)", "( 1)", "(1 )",
            " (1)", "(1) ", "(1)(2)", "(1), (2)", "((1))", "(())", "[1]", "{1}", "1", '"a"', "1, 2", "(1; 2)", "(1 2)", "(1)\n",
            "(1\n)", "(1,\t2)", "()1", "1()", "(1]", "{}", "(1", "(1, 2", "(1, ",
        )


class Bags(WrittenCase):
    def test_bags(self):
        self.check(parse_bag, [], "{}")
        self.check(parse_bag, [((), 1)], "{(): 1}")
        self.check(parse_bag, [((1,), -2)], "{(1): -2}")
        self.check(parse_bag, [((), 1), ((3,), 1), (("b",), 4)], '{(): 1, (3): 1, ("b"): 4}')

    def test_counts(self):
        for count in (1, -1, 10, -10, 2147483648, -2147483649, 10 ** 29, 10 ** 30 - 1, -(10 ** 29), 1 - 10 ** 30):
            self.check(parse_bag, [((1,), count)], "{(1): " + str(count) + "}")
        self.check_wrong(
            parse_bag, "{(1): 0}", "{(1): -0}", "{(1): 01}", "{(1): -01}", "{(1): +1}", "{(1): 00}", "{(1): }", "{(1): -}",
            '{(1): "1"}', "{(1): (1)}", "{(1): 1.0}", "{(1): " + "0" * 30 + "}", "{(1): " + "0" * 29 + "1}",
        )

    def test_counts_of_30_and_31_digits(self):
        for sign in ("", "-"):
            for digit in ("1", "9"):
                count = sign + digit * 30
                self.check(parse_bag, [((1,), int(count))], "{(1): " + count + "}")
                self.check_wrong(parse_bag, "{(1): " + count + "0}", "{(1): " + sign + "0" + digit * 30 + "}")

    def test_the_order_of_rows(self):
        rows = ["()", "(-1)", "(1)", "(1, 2)", '(1, "")', "(2)", "(9)", "(10)", '("")', '("10")', '("9")', '("a")', '("a", 0)', '("b")']
        text = "{" + ", ".join(f"{row}: 1" for row in rows) + "}"
        self.assertEqual(format_bag(parse_bag(text)), text)
        self.assertTrue(is_bag(text))
        for k in range(len(rows)):
            for n in range(k, len(rows)):
                self.check_wrong(parse_bag, "{" + f"{rows[n]}: 1, {rows[k]}: 1" + "}", "{" + f"{rows[n]}: 1, {rows[k]}: -2" + "}")

    def test_a_wrong_order_further_on(self):
        self.check_wrong(parse_bag, "{(1): 1, (2): 1, (1): 1}", "{(1): 1, (3): 1, (2): 1}", "{(1): 1, (2): 1, (2): 1}", "{(2): 1, (1): 1, (3): 1}")

    def test_a_row_that_is_no_row(self):
        self.check_wrong(parse_bag, "{(2147483648): 1}", "{(0, 1, 2, 3, 4, 5, 6, 7, 8): 1}", '{("' + "a" * 41 + '"): 1}', '{("%"): 1}')

    def test_other_forms(self):
        self.check_wrong(
            parse_bag, "", "{", "}", "{ }", "{(1)}", "{(1):1}", "{(1) : 1}", "{(1):  1}", "{(1): 1 }", "{ (1): 1}", "{(1): 1,}",
            "{(1): 1, }", "{, (1): 1}", "{(1): 1,(2): 1}", "{(1): 1,  (2): 1}", "{(1): 1 , (2): 1}", "{(1): 1; (2): 1}",
            "{(1): 1}{(2): 1}", "{(1): 1} ", " {(1): 1}", "[]", "()", "(1): 1", "{1: 1}", '{"a": 1}', "{(1): 1", "{(1): 1, (2)}",
            "{(1), 1}", "{(1)= 1}", "{{}}", "{}{}", "{(1): 1}}", "{}\n",
        )


class Changes(WrittenCase):
    def test_changes(self):
        self.check(parse_change, [], "")
        self.check(parse_change, [("a", [])], "a {}")
        self.check(parse_change, [("edge", [((1, 2), 1)]), ("a", [((), -1)])], "edge {(1, 2): 1}; a {(): -1}")

    def test_the_pairs_are_in_any_order_and_a_name_may_come_twice(self):
        self.check(parse_change, [("b", []), ("a", []), ("b", [((1,), 1)]), ("b", [])], "b {}; a {}; b {(1): 1}; b {}")

    def test_texts_that_hold_the_separators(self):
        change = [("a", [(("}; b {", "{(1): 1}"), 1), (("a {}; b {}",), 2)]), ("b", [((": ", ", ", "; ", ")", "(", ""), 1)])]
        text = 'a {("a {}; b {}"): 2, ("}; b {", "{(1): 1}"): 1}; b {(": ", ", ", "; ", ")", "(", ""): 1}'
        change[0][1].reverse()
        self.check(parse_change, change, text)

    def test_names(self):
        for name in ("a", "z", "abcdefghijkl", "zzzzzzzzzzzz", "ab"):
            self.check(parse_change, [(name, [])], f"{name} {{}}")
        for name in (
            "", "abcdefghijklm", "a" * 13, "a" * 100, "A", "aB", "Ab", "a1", "1a", "a_b", "_", "-", "a-b", "a b", " a", "a ", "`", "{",
            "\u00e9", "a\u00e9", "\u00df", "\u00aa", '"a"', "a.b",
        ):
            self.check_wrong(parse_change, f"{name} {{}}", f"a {{}}; {name} {{}}", f"{name} {{(1): 1}}")

    def test_other_forms(self):
        self.check_wrong(
            parse_change, " ", ";", "; ", "a", "a ", "a{}", "a  {}", "a {};", "a {}; ", "; a {}", "a {};b {}", "a {};  b {}",
            "a {} ; b {}", "a {}, b {}", "a {} b {}", " a {}", "a {} ", "a {}\n", "\n", "a: {}", "a ()", "{}", "a {(1): 0}",
            "a {}; b", "a {}; b {(2): 1, (1): 1}", "a {}; ; b {}", "a\n{}", "a\t{}",
        )

    def test_long_changes(self):
        change = [("abcdefghijkl", [((k, "a" * 40), k + 1) for k in range(1500)])]
        self.assertEqual(parse_change(format_change(change)), change)
        change = [("a", [])] * 5000
        self.assertEqual(parse_change(format_change(change)), change)


class Chance(WrittenCase):
    def things(self, source):
        bag = chance.odd_bag(source)
        return [(parse_row, bag[0][0] if bag else ()), (parse_bag, bag), (parse_change, chance.odd_change(source))]

    def test_there_and_back(self):
        source = random.Random(40)
        for _ in range(400):
            for parse, thing in self.things(source):
                self.check(parse, thing, FORMATS[parse](thing))

    def test_every_change_of_one_character(self):
        source = random.Random(41)
        for _ in range(25):
            for parse, thing in self.things(source):
                text = FORMATS[parse](thing)[:160]
                for k in range(len(text) + 1):
                    c = source.choice('(){}"-0123456789abz,:; ~%\n')
                    self.check_any(parse, text[:k])
                    self.check_any(parse, text[:k] + text[k + 1:])
                    self.check_any(parse, text[:k] + text[k:k + 1] * 2 + text[k + 1:])
                    self.check_any(parse, text[:k] + c + text[k + 1:])
                    self.check_any(parse, text[:k] + c + text[k:])

    def test_all_short_texts_over_a_few_characters(self):
        for size in range(5):
            for letters in itertools.product('(){}"-01a,: ', repeat=size):
                for parse in FORMATS:
                    self.check_any(parse, "".join(letters))

    def test_texts_of_pieces(self):
        source = random.Random(42)
        pieces = ["(", ")", "{", "}", ", ", ": ", "; ", "a ", "edge ", "1", "0", "-", "12", '"', '"a"', "()", "(1)", "(1): 1", "{}"]
        for _ in range(6000):
            text = "".join(source.choices(pieces, k=source.randint(1, 9)))
            for parse in FORMATS:
                self.check_any(parse, text)


class Sharing(unittest.TestCase):
    def test_nothing_is_changed_or_shared(self):
        source = random.Random(43)
        for _ in range(20):
            change = chance.odd_change(source)
            check_call(self, format_change, [change])
            check_call(self, parse_change, [format_change(change)])
            for _, bag in change:
                check_call(self, format_bag, [bag])
                check_call(self, parse_bag, [format_bag(bag)])

    def test_what_is_read_twice_is_read_anew(self):
        first, second = parse_change("a {}; b {}"), parse_change("a {}; b {}")
        first[0][1].append(1)
        first.clear()
        self.assertEqual(second, [("a", []), ("b", [])])
        parse_change("").append(1)
        self.assertEqual(parse_change(""), [])


if __name__ == "__main__":
    unittest.main()
