"""Promise [23]: texts of values, calls, patterns and plans, and what they are read as; with [2] (k)."""

import random
import unittest

from calltakers.errors import BadCall, BadPattern, BadPlan, BadText, BadValue
from calltakers.patterns import (Anything, AnyCall, Begins, Between, Both, Calls, Either, Exactly, Items, Kind, Not,
                                 Pattern)
from calltakers.plans import Expectation, Plan
from calltakers.texts import (call_text, pattern_text, plan_text, read_call, read_calls, read_pattern, read_plan,
                              read_value, value_text)
from calltakers.values import call
from plan_reference import plan_by
from plenty import call_pattern_by, pattern_by
from reference import CALLS_TOLD, TOLD, identical
from samples import CALLS, NO_CALLS, NO_VALUES, ROWS, VALUES, Stranger

VALUE_TEXTS = [
    (None, "none"), (False, "no"), (True, "yes"), (0, "0"), (1, "1"), (-1, "-1"), (10, "10"), (-120, "-120"),
    (10 ** 39, "1" + "0" * 39), (-10 ** 39, "-1" + "0" * 39), (10 ** 40 - 1, "9" * 40), ("", '""'), ("a", '"a"'),
    ("none", '"none"'), (" ", '" "'), ("  a ", '"  a "'), ('"', '"\\""'), ("\\", '"\\\\"'), ("\n", '"\\n"'),
    ("\\n", '"\\\\n"'), ('\\"', '"\\\\\\""'), ("a\nb\\", '"a\\nb\\\\"'), ("(1)", '"(1)"'),
    ("~!#$&'*+,-./:;<=>?@[]^_`{|}", '"' + "~!#$&'*+,-./:;<=>?@[]^_`{|}" + '"'),
    ((), "()"), ((1,), "(1)"), ((1, 2), "(1 2)"), (((),), "(())"), ((None, (True, "x y"), -3), '(none (yes "x y") -3)'),
    (((1,), ((),), ""), '((1) (()) "")')]
CALL_TEXTS = [
    (call("it"), "it()"), (call("db.open", 1, "x", mode=2), 'db.open(1 "x" mode=2)'),
    (call("a.b.c.d", ()), "a.b.c.d(())"), (call("it", zz=1, a=None, mode=(1, "=")), 'it(a=none mode=(1 "=") zz=1)'),
    (call("none", None), "none(none)"), (call("items", True, yes=True), "items(yes yes=yes)"),
    (call("it", (1, 2), -5, b=""), 'it((1 2) -5 b="")')]
PATTERN_TEXTS = [
    (Anything(), "any"), (Exactly(None), "none"), (Exactly(True), "yes"), (Exactly(False), "no"), (Exactly(7), "7"),
    (Exactly("any"), '"any"'), (Exactly("3..5"), '"3..5"'), (Exactly((1, "a")), '(1 "a")'), (Exactly(()), "()"),
    (Kind("none"), "kind:none"), (Kind("bool"), "kind:bool"), (Kind("int"), "kind:int"), (Kind("text"), "kind:text"),
    (Kind("tuple"), "kind:tuple"), (Between(3, 5), "3..5"), (Between(None, 5), "..5"), (Between(3, None), "3.."),
    (Between(None, None), ".."), (Between(-5, -3), "-5..-3"), (Between(5, 3), "5..3"), (Between(0, 0), "0..0"),
    (Begins("ab"), 'begins:"ab"'), (Begins(""), 'begins:""'), (Begins('a "b\\'), 'begins:"a \\"b\\\\"'),
    (Items(), "items()"), (Items(Anything()), "items(any)"),
    (Items(Exactly((1,)), Items(), Kind("int")), "items((1) items() kind:int)"),
    (Both(), "both()"), (Both(Between(0, None), Not(Exactly(7))), "both(0.. not(7))"), (Either(), "either()"),
    (Either(Exactly(None), Begins("x"), Both(Anything())), 'either(none begins:"x" both(any))'),
    (Not(Not(Either(Exactly("a b")))), 'not(not(either("a b")))')]
CALLS_TEXTS = [
    (AnyCall(), "**"), (Calls(None), "*()"), (Calls("it"), "it()"),
    (Calls("db.open", Anything(), mode=Exactly(2)), "db.open(any mode=2)"),
    (Calls(None, Exactly(1), Between(None, 3)), "*(1 ..3)"),
    (Calls("a.b.c.d", zz=Anything(), a=Kind("int")), "a.b.c.d(a=kind:int zz=any)"),
    (Calls("items", Items(Anything()), any=Anything()), "items(items(any) any=any)"),
    (Calls("none", mode=Begins("=")), 'none(mode=begins:"=")'),
    (Calls("it", Exactly((1, (2,))), b=Either()), "it((1 (2)) b=either())")]
PLAN = Plan(Expectation("low", Calls("it", Between(0, 5))),
            Expectation("high", AnyCall(), least=0, most=12, answer=(1, "x y")),
            Expectation("z", Calls("z.z", mode=Anything()), least=2, most=2, after=["high", "low"]),
            Expectation("after", Calls(None), after=["low"], answer=False))
PLAN_TEXT = """low 1..1 it(0..5)
high 0..12 ** gives (1 "x y")
z 2..2 z.z(mode=any) after high,low
after 1..1 *() after low gives no
"""
STRANGE = [None, 1, True, (), [], {}, Stranger(), b"1", ("1",), ["none"], {"none": 1}, 1.0]


def written(told):
    """The text of the pattern of values that tells this, written once more."""
    word = told[0]
    if word == "anything":
        return "any"
    if word == "exactly":
        return spelt(told[1])
    if word == "kind":
        return f"kind:{told[1]}"
    if word == "begins":
        return "begins:" + spelt(told[1])
    if word == "between":
        return f"{'' if told[1] is None else told[1]}..{'' if told[2] is None else told[2]}"
    return f"{word}({' '.join(map(written, told[1:]))})"


def spelt(value):
    """The text of a value, written once more."""
    if type(value) is tuple:
        return f"({' '.join(map(spelt, value))})"
    if type(value) is str:
        return '"' + "".join({'"': '\\"', "\\": "\\\\", "\n": "\\n"}.get(sign, sign) for sign in value) + '"'
    return str(value) if type(value) is int else {None: "none", True: "yes", False: "no"}[value]


def written_calls(told):
    if told == ("anycall",):
        return "**"
    parts = [written(part) for part in told[2]] + [f"{name}={written(part)}" for name, part in told[3]]
    return f"{'*' if told[1] is None else told[1]}({' '.join(parts)})"


def row(told):
    name, pattern, least, most, after, answer = told
    parts = [f"{name} {least}..{most} {written_calls(pattern)}"]
    parts += [f"after {','.join(after)}"] if after else []
    return " ".join(parts + ([f"gives {spelt(answer)}"] if answer is not None else []))


SIGNS = ['"', "\\", "(", ")", " ", "=", ".", "..", ",", "-", "0", "1", "n", "a", "*", ":", "any", "none", "\n", "mode=",
         "x=1", '"x"', "é", "after", "\t"]
PARTS = ["none", "()", "(", ")", " ", "any", "mode=1", "it()", "**", "kind:int", " after a", " gives 1", " gives none",
         "1..2", "--", "00", "..", "not(any)", "a=1 b=2"]


def spoilt(text, random, most):
    """Texts that differ from this one by a sign or a part; some of them may be good."""
    found = [text[:at] + text[at + 1:] for at in range(len(text))]
    found += [text[:at] + sign + text[at + 1:] for at in range(len(text)) for sign in SIGNS]
    found += [text[:at] + sign + text[at:] for at in range(len(text) + 1) for sign in SIGNS + PARTS]
    found += [text[:at] + text[end:] for at in range(len(text)) for end in range(at + 2, len(text) + 1)]
    found += [text[:end] + text[at:] for at in range(len(text)) for end in range(at + 1, len(text) + 1)]
    return found if len(found) <= most else random.sample(found, most)


class Case(unittest.TestCase):

    def refused(self, error, function, thing, **attributes):
        with self.assertRaises(error, msg=thing) as caught:
            function(thing)
        for name, value in attributes.items():
            self.assertTrue(identical(getattr(caught.exception, name), value), (thing, getattr(caught.exception, name)))

    def check_spoilt(self, texts, read, write, seed, most):
        """A spoilt text is the text of the thing that is read, or refused."""
        good, bad = 0, 0
        for text in texts:
            for other in spoilt(text, seed, most):
                try:
                    thing = read(other)
                except BadText as error:
                    self.assertTrue(identical(error.row, 0))
                    bad += 1
                else:
                    good += 1
                    self.assertEqual(write(thing), other)
        self.assertGreater(good, 50)
        self.assertGreater(bad, 500)


class Values(Case):

    def test_written_by_hand(self):
        for value, text in VALUE_TEXTS:
            self.assertEqual(value_text(value), text)
            self.assertEqual(value_text(value=value), text)
            self.assertTrue(identical(read_value(text), value), text)
            self.assertTrue(identical(read_value(text=text), value), text)

    def test_many(self):
        texts = []
        for value in [value for some in ROWS for value in some] + VALUES:
            texts.append((value_text(value), value))
            self.assertEqual(texts[-1][0], spelt(value))
            self.assertTrue(identical(read_value(texts[-1][0]), value))
        for one, value in texts:
            for other, another in texts:
                self.assertEqual(one == other, identical(value, another))

    def test_every_sign(self):
        signs = [chr(code) for code in range(32, 127) if chr(code) != "%"] + ["\n"]
        for sign in signs:
            for text in (sign, sign + sign, "a" + sign, sign + "a", "\\" + sign, sign + "\\", '"' + sign, sign + '"'):
                self.assertEqual(value_text(text), spelt(text))
                self.assertEqual(read_value(value_text(text)), text)

    def test_no_texts(self):
        for text in ["", " ", "  ", "1 ", " 1", "01", "00", "-0", "-01", "--1", "+1", "1.", "1_0", "1e3", "0x1",
                     "1" * 41, "-" + "1" * 41, "0" * 41, "-", "None", "True", "null", "yes ", "nO", "noo", "none none",
                     "1 2", "a", '"', '"a', 'a"', '"a" ', '"a""b"', '"a"b', '"\\"', '"\\a"', '"\\N"', '"\\ "', '"\n"',
                     '"a\nb"', "'a'", '"\\\\\\"', "(", ")", "(1", "1)", "(1))", "((1)", "( 1)", "(1 )", "(1  2)",
                     "( )", "(1,2)", "(1, 2)", "()()", "() ()", "(a=1)", "(1 a=1)", "a=1", "[1]", "[]", "{}", "any",
                     "it()", "1..2", "..", "kind:int", "(any)", "not(1)", 'begins:"a"', "\n", "1\n", "\t1", "(1\n2)",
                     "(1\t2)", "1\r", "items()", "=", "(=)", '("a""b")', '(1"a")', '("a"1)', "(1(2))", "((1)2)",
                     "((1)(2))", "\u0661", "\u00b2", "1\u00a0"]:
            self.refused(BadText, read_value, text, row=0)

    def test_forty_digits(self):
        for digits in (1, 2, 39, 40):
            for number in (10 ** (digits - 1), 10 ** digits - 1):
                for value in (number, -number):
                    self.assertEqual(read_value(str(value)), value)
                    self.assertEqual(read_value(f"({value} {value})"), (value, value))
        for text in (str(10 ** 40), str(-10 ** 40), "9" * 41, "9" * 5000, "-" + "9" * 5000):
            self.refused(BadText, read_value, text, row=0)
            self.refused(BadText, read_value, f"(1 {text})", row=0)
            self.refused(BadText, read_pattern, f"{text}..", row=0)
            self.refused(BadText, read_pattern, f"..{text}", row=0)

    def test_twenty_brackets(self):
        value = ()
        for _ in range(19):
            value = (value,)
        text = "(" * 20 + ")" * 20
        self.assertTrue(identical(read_value(text), value))
        self.assertEqual(value_text(value), text)
        self.refused(BadText, read_value, "(" + text + ")", row=0)
        deep = "(" * 20 + '"((((("' + ")" * 20
        self.assertEqual(value_text(read_value(deep)), deep)
        self.refused(BadText, read_value, "(" + deep + ")", row=0)
        wide = "(" * 19 + " ".join(["()"] * 50) + ")" * 19
        self.assertEqual(value_text(read_value(wide)), wide)
        for closed in ("() ", "((((())))) ", '"))" ', '() ")))" '):
            after = "(" * 5 + closed * 30 + "(" * 15 + ")" * 20
            self.assertEqual(value_text(read_value(after)), after)
            self.refused(BadText, read_value, "(" * 5 + closed * 30 + "(" * 16 + ")" * 21, row=0)
        quoted = '("' + "(" * 100 + '" ' + '"\\"((\\\\" ' * 5 + "1)"
        self.assertEqual(value_text(read_value(quoted)), quoted)
        self.assertEqual(len(read_value('"' + "(" * 10000 + '"')), 10000)

    def test_very_long_texts(self):
        for text in ("(" * 200000, "(" * 200000 + ")" * 200000, "items(" * 100000,
                     "not(" * 100000 + "any" + ")" * 100000, "it(" * 50000, '"' + "(" * 200000, ")" * 200000,
                     "(" * 20 + ")" * 200000, "(1 " * 100000, "9" * 200000, "a" * 200000, " " * 200000, '"\\' * 100000,
                     "=" * 100000, "a=" * 50000):
            for read in (read_value, read_call, read_pattern, read_calls, read_plan):
                self.refused(BadText, read, text, row=0)

    def test_long_texts_that_read(self):
        value = tuple(range(20000))
        self.assertTrue(identical(read_value(value_text(value)), value))
        self.assertEqual(read_value(value_text("\\\"\n" * 20000)), "\\\"\n" * 20000)

    def test_other_objects(self):
        for thing in NO_VALUES:
            self.refused(BadValue, value_text, thing)
        for thing in STRANGE:
            self.refused(BadText, read_value, thing, row=0)

    def test_spoilt_texts(self):
        seed = random.Random(151)
        self.check_spoilt([text for _, text in VALUE_TEXTS], read_value, value_text, seed, 700)


class CallTexts(Case):

    def test_written_by_hand(self):
        for made, text in CALL_TEXTS:
            self.assertEqual(call_text(made), text)
            self.assertEqual(call_text(call=made), text)
            self.assertTrue(identical(read_call(text), made), text)
            self.assertTrue(identical(read_call(text=text), made))

    def test_many(self):
        for made in CALLS + [call("it", value, mode=value) for value in VALUES]:
            parts = [spelt(value) for value in made[1]] + [f"{name}={spelt(value)}" for name, value in made[2]]
            self.assertEqual(call_text(made), f"{made[0]}({' '.join(parts)})")
            self.assertTrue(identical(read_call(call_text(made)), made))

    def test_no_texts(self):
        for text in ["", "it", "it(", "it)", "()", "(1)", "it ()", "it() ", " it()", "it( )", "it(1 )", "it( 1)",
                     "it(1  2)", "it(a=1 1)", "it(a=1 a=1)", "it(b=1 a=1)", "it(a=1 a=2)", "it(a = 1)", "it(a= 1)",
                     "it(a =1)", "it(a=)", "it(=1)", "it(a==1)", "it(self=1)", "it(path=1)", "it(A=1)",
                     "it(abcdefghi=1)", "it(a.b=1)", "It()", "it.()", ".it()", "a..b()", "a.b.c.d.e()", "self()",
                     "a.path()", "abcdefghi()", "a1()", "*()", "**", "it(any)", "it(1..2)", "it(kind:int)", "it()()",
                     "it(1)(2)", "it(1))", "it((1)", "it(1,2)", '"it"()', 'it("a"=1)', "it(1=1)", "it(()=1)",
                     "it(a=1b=2)", 'it("x"mode=2)', "it()\n", "\nit()", "it(\n)", "it(1 mode=2 mode=3)", "it(x)",
                     "none", "it(mode=any)", "it(mode)", "it(01)", "it(-0)", "it(nope)"]:
            self.refused(BadText, read_call, text, row=0)

    def test_twenty_brackets(self):
        good = "it(" + "(" * 19 + ")" * 19 + " mode=" + "(" * 19 + ")" * 19 + ")"
        self.assertEqual(call_text(read_call(good)), good)
        for bad in ("it(" + "(" * 20 + ")" * 21, "it(mode=" + "(" * 20 + ")" * 21):
            self.refused(BadText, read_call, bad, row=0)
        self.assertEqual(len(read_call('it("' + "(" * 30 + '")')[1][0]), 30)

    def test_other_objects(self):
        for thing in NO_CALLS:
            with self.assertRaises(BadCall) as caught:
                call_text(thing)
            self.assertIs(caught.exception.path, thing)
        for thing in STRANGE + CALLS:
            self.refused(BadText, read_call, thing, row=0)

    def test_spoilt_texts(self):
        seed = random.Random(152)
        self.check_spoilt([text for _, text in CALL_TEXTS], read_call, call_text, seed, 1500)


class PatternTexts(Case):

    def test_written_by_hand(self):
        for pattern, text in PATTERN_TEXTS:
            self.assertEqual(pattern_text(pattern), text)
            self.assertEqual(pattern_text(pattern=pattern), text)
            self.assertTrue(identical(read_pattern(text).told, pattern.told), text)
            self.assertTrue(identical(read_pattern(text=text).told, pattern.told), text)
            self.assertIs(type(read_pattern(text)), type(pattern))
        for pattern, text in CALLS_TEXTS:
            self.assertEqual(pattern_text(pattern), text)
            self.assertTrue(identical(read_calls(text).told, pattern.told), text)
            self.assertTrue(identical(read_calls(text=text).told, pattern.told), text)
            self.assertIs(type(read_calls(text)), type(pattern))

    def test_every_kind(self):
        for pattern, told in TOLD:
            self.assertEqual(pattern_text(pattern), written(told))
            self.assertTrue(identical(read_pattern(written(told)).told, told))
        for pattern, told in CALLS_TOLD:
            self.assertEqual(pattern_text(pattern), written_calls(told))
            self.assertTrue(identical(read_calls(written_calls(told)).told, told))

    def test_many(self):
        seed = random.Random(153)
        texts = {}
        for _ in range(500):
            pattern = pattern_by(seed, seed.choice([1, 2, 3, 4]))
            text = pattern_text(pattern)
            self.assertEqual(text, written(pattern.told))
            self.assertTrue(identical(read_pattern(text).told, pattern.told))
            self.assertTrue(identical(texts.setdefault(text, pattern.told), pattern.told))
            pattern = call_pattern_by(seed, 3)
            text = pattern_text(pattern)
            self.assertEqual(text, written_calls(pattern.told))
            self.assertTrue(identical(read_calls(text).told, pattern.told))

    def test_no_texts(self):
        for text in ["", " ", "any ", " any", "Any", "anything", "any()", "anyany", "any any", "kind", "kind:",
                     "kind:Int", "kind:int ", "kind: int", "kind:float", "kind:kind:int", "kind:int:", 'kind:"int"',
                     "kind(int)", "...", "3...5", "3.5", "3..05", "03..5", "-0..5", "3.. 5", "3 ..5", "3 .. 5",
                     "3..5..7", "3..x", "x..3", "....", "a..b", "3..none", "yes..3", '"a".."b"', "begins", "begins:",
                     "begins:ab", "begins: \"ab\"", 'begins:"ab', 'begins:"a""b"', "begins:(", "begins:1", 'begins"a"',
                     'begins("a")', 'Begins:"a"', "items", "items(", "items( )", "items(any", "items(any )",
                     "items( any)", "items(any  any)", "items (any)", "items(a=any)", "items(any a=any)",
                     "both(any,any)", "either)", "not()", "not(any any)", "not any", "not", "nor(any)",
                     "exactly(1)", "**", "*()", "it()", "it(any)", "(any)", "(1 any)", "(1 items())", "(1..2)", "1 2",
                     "any\n", "\nany", "any=1", "=", "a=any", "not(a=any)", "(kind:int)", "items(any)(any)",
                     "items()()", "1" * 41, "1" * 41 + "..", "none..", "any..", '""..', "..-0", "-..", "..-",
                     "between(1 2)"]:
            self.refused(BadText, read_pattern, text, row=0)
        for text in ["", "*", "***", "* ()", "*(", "*)", "**()", "** ", " **", "**\n", "*( )", "it", "it(", "it( any)",
                     "it(any )", "it(any  any)", "it(mode=any any)", "it(b=any a=any)", "it(a=any a=any)",
                     "it(a=any a=1)", "it(self=any)", "it(path=1)", "it(mode= any)", "it(mode =any)", "it(mode=)",
                     "it(=any)", "it(Mode=any)", "It()", "it.*()", "*.it()", "any", "none", "1", "kind:int",
                     "it(it())", "it(**)", "it(*(1))", "it(nope)", "it(not())", "it(kind:x)", "it()it()", "it() it()",
                     "it()()", "a.b.c.d.e()", "self()", '"it"()', '"*"()', "(any)", "it((any))", "it(1..2..3)",
                     "it(any)\n", "it(\n)", "**(any)", "*it()", "anycall"]:
            self.refused(BadText, read_calls, text, row=0)

    def test_twenty_brackets(self):
        for word in ("not(", "both(", "items(", "either(any "):
            for inner in ("any", "()", '"((("', "items()"):
                opened = 20 - inner.replace('"((("', "").count("(")
                good = word * opened + inner + ")" * opened
                self.assertEqual(pattern_text(read_pattern(good)), good)
                self.refused(BadText, read_pattern, word + good + ")", row=0)
                self.refused(BadText, read_calls, "it(" + good + ")", row=0)
                shorter = "it(" + word * (opened - 1) + inner + ")" * opened
                self.assertEqual(pattern_text(read_calls(shorter)), shorter)

    def test_other_objects(self):
        for thing in STRANGE + VALUES + CALLS + [Pattern(), AnyCall, Anything, ("anything",)]:
            self.refused(BadPattern, pattern_text, thing)
        for thing in STRANGE + [Anything(), AnyCall(), ("anything",), ("anycall",)]:
            self.refused(BadText, read_pattern, thing, row=0)
            self.refused(BadText, read_calls, thing, row=0)

    def test_spoilt_texts(self):
        seed = random.Random(154)
        self.check_spoilt([text for _, text in PATTERN_TEXTS], read_pattern, pattern_text, seed, 700)
        self.check_spoilt([text for _, text in CALLS_TEXTS], read_calls, pattern_text, seed, 1500)


class PlanTexts(Case):

    def test_written_by_hand(self):
        self.assertEqual(plan_text(PLAN), PLAN_TEXT)
        self.assertEqual(plan_text(plan=PLAN), PLAN_TEXT)
        self.assertTrue(identical(read_plan(PLAN_TEXT).told, PLAN.told))
        self.assertTrue(identical(read_plan(text=PLAN_TEXT).told, PLAN.told))
        self.assertIs(type(read_plan(PLAN_TEXT)), Plan)

    def test_many(self):
        seed = random.Random(155)
        for _ in range(150):
            plan = plan_by(seed, seed.choice([1, 2, 3, 4, 5, 6]), is_free=seed.random() < 0.3)
            text = plan_text(plan)
            self.assertEqual(text, "".join(row(told) + "\n" for told in plan.told))
            self.assertTrue(identical(read_plan(text).told, plan.told))
        for value in VALUES:
            plan = Plan(Expectation("a", AnyCall(), answer=value))
            self.assertTrue(identical(read_plan(plan_text(plan)).told, plan.told))

    def test_words_as_names(self):
        text = "after 1..1 **\ngives 0..2 gives() after after gives \"after\"\nnone 1..1 *() after gives,after\n"
        self.assertEqual(plan_text(read_plan(text)), text)
        self.assertEqual([one.after for one in read_plan(text).expectations], [(), ("after",), ("gives", "after")])

    BAD_ROWS = ["", " ", "a", "a 1..1", "a 1..1 ", "a ** 1..1", " a 1..1 **", "a 1..1 ** ", "a  1..1 **", "a 1..1  **",
                "A 1..1 **", "self 1..1 **", "path 1..1 **", "abcdefghi 1..1 **", '"a" 1..1 **', "a.b 1..1 **",
                "a 1 **", "a 1.. **", "a ..1 **", "a .. **", "a 1...1 **", "a 01..1 **", "a 1..01 **", "a -1..1 **",
                "a 2..1 **", "a 0..0 **", "a 1..-1 **", "a -0..1 **", "a 1 ..1 **", "a x..1 **", "a 1..1 any",
                "a 1..1 it", "a 1..1 it(", "a 1..1 it(either())", "a 1..1 it(5..3)", "a 1..1 it(both(1 2))",
                "a 1..1 ** after", "a 1..1 ** after ", "a 1..1 ** after b,", "a 1..1 ** after ,b",
                "a 1..1 ** after b, c", "a 1..1 ** after b c", "a 1..1 ** after b,b", "a 1..1 ** after B",
                "a 1..1 ** after self", "a 1..1 **  after b", "a 1..1 ** after  b", "a 1..1 ** after b ",
                "a 1..1 ** After b", "a 1..1 ** after b after c", "a 1..1 ** gives 1 after b", "a 1..1 ** gives",
                "a 1..1 ** gives ", "a 1..1 ** gives none", "a 1..1 ** gives 1 ", "a 1..1 ** gives  1",
                "a 1..1 ** gives 1 gives 2", "a 1..1 ** gives x", "a 1..1 ** gives any", "a 1..1 ** gives 1 2",
                "a 1..1 ** gives 01", "a 1..1 ** 1", "a 1..1 **gives 1", "a 1..1 ** after b gives none",
                "a 1..1 it()after b", "a 1..1 ** after (b)", 'a 1..1 ** after "b"', "a 1..1 ** **", "a 1..1 (1)",
                "a 1..1 **\r", "\ta 1..1 **", "a 1..1 ** gives (1", "a 1..1 it(" + "(" * 20 + ")" * 21,
                "a 1..1 ** gives " + "(" * 21 + ")" * 21, "a " + "1" * 41 + ".. **", "a 1.." + "1" * 41 + " **"]

    def test_bad_rows(self):
        good = "b 1..1 **\n"
        for text in self.BAD_ROWS:
            self.refused(BadText, read_plan, text + "\n", row=0)
            self.refused(BadText, read_plan, good + text + "\n", row=1)
            self.refused(BadText, read_plan, good + "c 0..1 it() after b\n" + text + "\n" + text, row=2)
            # Ahead of a plan that is none: twice the same name, and an order that no name stands for.
            self.refused(BadText, read_plan, good + good + "c 1..1 ** after zz\n" + text + "\n", row=3)
            self.refused(BadText, read_plan, text + "\n" + good + text, row=0)

    def test_rows_without_a_newline(self):
        for text, index in (("a 1..1 **", 0), ("a 1..1 **\nb 1..1 **", 1), ("a 1..1 **\n ", 1), ("a", 0), ("\n", 0),
                            ("a 1..1 **\n\n", 1), ("a 1..1 **\na 1..1 **\nx", 2), ("\na 1..1 **\n", 0),
                            ("a 1..1 **\r\n", 0), ("a 1..1 ** gives \"\n\"\n", 0)):
            self.refused(BadText, read_plan, text, row=index)

    def test_bad_plans_behind_bad_rows(self):
        self.refused(BadPlan, read_plan, "", index=0)
        one = "a 1..1 **\n"
        for text, index in ((one + one, 1), ("a 1..1 ** after b\nb 1..1 **\n", 0), ("a 1..1 ** after a\n", 0),
                            (one + "b 1..1 ** after a,c\nc 1..1 **\n", 1),
                            ("".join(f"{name} 1..1 **\n" for name in "abcdefg"), 6),
                            ("".join(f"{name} 1..1 **\n" for name in "abcdefa"), 6),
                            (one + "b 1..1 **\n" + "b 1..1 **\n" * 9, 2)):
            self.refused(BadPlan, read_plan, text, index=index)

    def test_twenty_brackets_in_each_row(self):
        text = "".join(f"{name} 1..1 it({'(' * 19}{')' * 19}) gives {'(' * 20}{')' * 20}\n" for name in "abc")
        self.assertEqual(plan_text(read_plan(text)), text)

    def test_other_objects(self):
        for thing in STRANGE + [PLAN, PLAN.told, [PLAN_TEXT]]:
            self.refused(BadText, read_plan, thing, row=0)

    def test_spoilt_texts(self):
        seed = random.Random(156)
        good, bad, refused = 0, 0, 0
        for other in spoilt(PLAN_TEXT, seed, 6000):
            try:
                plan = read_plan(other)
            except BadText as error:
                bad += 1
                self.check_before(other, error.row, is_good=False)
            except BadPlan as error:
                refused += 1
                self.check_before(other, error.index, is_good=True)
            else:
                good += 1
                self.assertEqual(plan_text(plan), other)
        self.assertGreater(min(good, refused), 20)
        self.assertGreater(bad, 2000)

    def check_before(self, text, index, is_good):
        """The rows before one are such rows, and make a plan if all rows are; with this one it is not so."""
        rows = [line + "\n" for line in text.split("\n")]
        if index:
            try:
                read_plan("".join(rows[:index]))
            except BadPlan:
                self.assertIs(is_good, False)
        if is_good and text:
            self.refused(BadPlan, read_plan, "".join(rows[:index + 1]), index=index)
        if not is_good and index < len(rows) - 1:
            self.refused(BadText, read_plan, "".join(rows[:index + 1]), row=index)


if __name__ == "__main__":
    unittest.main()
