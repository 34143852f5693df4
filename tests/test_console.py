"""Promise [24]: the console and its lines."""

import random
import unittest

from calltakers.certainty import could_take
from calltakers.console import Console
from calltakers.errors import Lost, NoIndex, NotFree
from calltakers.firstfit import first_fit, trap
from calltakers.patterns import AnyCall
from calltakers.plans import Expectation, Plan
from calltakers.rules import conflict
from calltakers.texts import call_text, plan_text, read_call
from calltakers.values import call
from calltakers.watching import Watcher
from plan_reference import CALLS, is_kept, plan_by
from samples import NO_VALUES, VALUES, Stranger
from test_watching import shortest

ASKING = ["rest", "who 0", "who 12", "who 9999", "trap", "conflict", "undo", "call it()", 'call it(1 "x" mode=2)']
LOW, HIGH = "plan low 1..1 it(0..5)", "plan high 0..2 it(3..9) gives \"up\""
WHAT = ["", " ", "what", "ok", "none", "plan", "plan ", "call", "call ", "who", "who ", "Rest", "REST", "rest ",
        " rest", "rest rest", "rest 1", "rest\n", "\nrest", "rest()", "trap ", "trap 1", " trap", "trap\n",
        "conflict ", "conflict x", "conflict\n", "undo ", "undo 1", "undo\n", " undo", "undo undo",
        "plan  low 1..1 it()", "plan low 1..1 it() ", " plan low 1..1 it()", "plan low 1..1 it()\n",
        "plan low 1..1  it()", "plan low 1..1 it", "plan low 1..0 it()", "plan low 0..0 it()", "plan low 01..1 it()",
        "plan low 1..1 it(either())", "plan low 1..1 it() gives none", "plan low 1..1 it() after",
        "plan low 1..1 it() after a,a", "plan low 1..1 it() after A", "plan self 1..1 it()",
        "plan low 1..1 it()\nhigh 1..1 it()", "Plan low 1..1 it()", "plan low", "plan low 1..1 any",
        "planlow 1..1 it()", "plan\tlow 1..1 it()", "call  it()", "call it() ", "call it()\n", "call it(1  2)",
        "call it( 1)", "call it(01)", "call it(b=1 a=1)", "call it(any)", "call **", "call *()", "call it",
        "call self()", "call it();", "call it(); it()", "call it() it()", "callit()", "CALL it()",
        "call it(" + "(" * 20 + ")" * 21, "who 00", "who 01", "who 0000", "who 10000", "who 00001", "who -1", "who -0",
        "who +1", "who x", "who 1.0", "who 1 2", "who  1", "who 1 ", "who 1\n", "who (1)", "who yes", "who no",
        "who none", "who \"1\"", "who 1..2", "who \u0661", "who0", "Who 0", "help", "quit", "undo()", "kept", "open",
        "refused", "who 99999", "rest; rest", "plan low 1..1 it(\"\n\")", "call it(\"\n\")"]


def console_of(*lines):
    console = Console()
    for line in lines:
        console.reply(line)
    return console


class Lines(unittest.TestCase):

    def replies(self, console, *pairs):
        for line, reply in pairs:
            self.assertEqual(console.reply(line), reply, line)

    def test_example(self):
        console = Console()
        self.assertEqual((console.reply("plan low 1..1 it(0..5)"), console.reply("call it(4)"),
                          console.reply("call it(4)"), console.reply("undo"), console.reply("who 0")),
                         ("ok", "kept", "lost", "ok", "low"))

    def test_before_the_first_expectation(self):
        console = Console()
        for line in ASKING:
            self.assertEqual(console.reply(line), "refused badplan", line)
        for line in WHAT:
            self.assertEqual(console.reply(line), "what", line)
        self.assertEqual(console.reply(line="rest"), "refused badplan")

    def test_plan(self):
        console = Console()
        self.replies(console, (LOW, "ok"), ("call it(4)", "kept"), (HIGH, "ok"), ("who 0", "refused noindex"),
                     ("undo", "refused noindex"), ("call it(8)", "open"), ("call it(4)", "kept"),
                     ("plan low 1..1 **", "refused badplan"), ("plan zz 1..1 ** after a", "refused badplan"),
                     ("plan zz 1..1 ** after zz", "refused badplan"), ("who 1", "low high"), ("rest", "none"),
                     ("plan zz 1..1 **", "ok"))
        self.assertEqual(len(console.reply("rest").split("; ")), 2)

    def test_a_plan_that_is_none_before_the_first_expectation(self):
        console = Console()
        self.replies(console, ("plan a 1..1 ** after b", "refused badplan"), ("rest", "refused badplan"),
                     ("plan a 1..1 **", "ok"), ("plan b 1..1 ** after a", "ok"), ("conflict", "refused notfree"))

    def test_seven_expectations(self):
        console = Console()
        for name in "abcdef":
            self.assertEqual(console.reply(f"plan {name} 1..1 {name}()"), "ok")
        self.assertEqual(console.reply("call a()"), "open")
        self.assertEqual(console.reply("plan g 1..1 g()"), "refused badplan")
        self.assertEqual(console.reply("who 0"), "a")
        self.assertEqual(console.reply("rest"), "b(); c(); d(); e(); f()")

    def test_call(self):
        console = console_of("plan a 2..2 it() gives 1", "plan b 1..1 x(any mode=kind:int) after a")
        self.replies(console, ("call it()", "open"), ("call it()", "open"), ('call x("a  b" mode=1)', "kept"),
                     ("call it()", "lost"), ("call it()", "lost"))

    def test_rest(self):
        console = console_of('plan a 2..2 it("x; y" mode=(1 none))', "plan b 1..1 z() after a")
        self.replies(console, ("rest", 'it("x; y" mode=(1 none)); it("x; y" mode=(1 none)); z()'),
                     ('call it("x; y" mode=(1 none))', "open"), ("rest", 'it("x; y" mode=(1 none)); z()'),
                     ("call z()", "lost"), ("rest", "refused lost"), ("undo", "ok"),
                     ('call it("x; y" mode=(1 none))', "open"), ("call z()", "kept"), ("rest", "none"))

    def test_who(self):
        console = console_of(LOW, HIGH)
        self.replies(console, ("who 0", "refused noindex"), ("call it(4)", "kept"), ("who 0", "low high"),
                     ("who 1", "refused noindex"), ("who 9999", "refused noindex"), ("call it(8)", "kept"),
                     ("who 0", "low high"), ("call it(3)", "kept"), ("who 0", "low high"), ("who 1", "high"),
                     ("call it(3)", "lost"), ("who 0", "none"), ("who 3", "none"), ("who 99", "none"),
                     ("who 01", "what"))

    def test_trap(self):
        console = console_of("plan wide 0..1 *()", "plan bare 0..1 it()")
        self.assertEqual(console.reply("trap"), "it(); a()")
        self.assertEqual(console_of("plan bare 0..1 it()", "plan wide 0..1 *()").reply("trap"), "none")
        self.assertEqual(console_of(LOW).reply("trap"), "refused notfree")
        self.assertEqual(console_of("plan a 0..1 **", "plan b 0..1 ** after a").reply("trap"), "refused notfree")

    def test_conflict(self):
        console = console_of(LOW, HIGH)
        self.assertEqual(console.reply("conflict"), "cross low high")
        self.assertEqual(console_of("plan outer 1..1 it(any)", "plan inner 0..1 it(1)").reply("conflict"),
                         "slack inner outer")
        self.assertEqual(console_of(LOW).reply("conflict"), "none")
        self.assertEqual(console_of(LOW, "plan b 1..1 ** after low").reply("conflict"), "refused notfree")

    def test_undo(self):
        console = console_of(LOW, HIGH)
        self.replies(console, ("undo", "refused noindex"), ("call it(8)", "open"), ("call it(x)", "what"),
                     ("call it(4)", "kept"), ("call zz()", "lost"), ("undo", "ok"), ("rest", "none"), ("undo", "ok"),
                     ("who 1", "refused noindex"), ("who 0", "high"), ("call it(4)", "kept"), ("undo", "ok"),
                     ("undo", "ok"), ("undo", "refused noindex"), ("call it(0)", "kept"))

    def test_undo_takes_no_expectation_back(self):
        console = console_of(LOW, HIGH, "call it(8)")
        self.replies(console, ("undo", "ok"), ("conflict", "cross low high"), ("undo", "refused noindex"),
                     ("conflict", "cross low high"))

    def test_every_other_line(self):
        console = console_of(LOW, HIGH, "call it(8)")
        for line in WHAT:
            self.assertEqual(console.reply(line), "what", line)
            self.assertEqual(console.reply("who 0"), "high")
        self.assertEqual(console.reply("call it(4)"), "kept")

    def test_what_is_no_string(self):
        for console in (Console(), console_of(LOW)):
            for thing in [None, 1, True, (), [], {}, Stranger(), b"rest", ["rest"], ("rest",)] + NO_VALUES + VALUES:
                self.assertEqual(console.reply(thing), "what", thing)

    def test_spaces_in_strings(self):
        console = console_of('plan a 1..2 it("  x ")')
        self.replies(console, ('call it("  x ")', "kept"), ('call it("  x  ")', "lost"), ("undo", "ok"),
                     ("rest", "none"))

    def test_independent_consoles(self):
        one, other = console_of(LOW), console_of(LOW)
        self.assertEqual((one.reply("call it(4)"), one.reply("who 0"), other.reply("who 0")),
                         ("kept", "low", "refused noindex"))
        self.assertEqual(other.reply(HIGH), "ok")
        self.assertEqual((one.reply("conflict"), other.reply("conflict"), Console().reply("conflict")),
                         ("none", "cross low high", "refused badplan"))

    def test_long_lines(self):
        console = console_of(LOW)
        for line in ("call it(" + "(" * 100000, "plan a 1..1 it(" + "not(" * 100000, "who " + "1" * 100000,
                     "x" * 100000, "rest" + " " * 100000):
            self.assertEqual(console.reply(line), "what")


class Histories(unittest.TestCase):

    def refused(self, error):
        return "refused " + type(error).__name__.lower()

    def reply(self, plan, record, line):
        """What is to be replied to a line that asks, by the functions of the package."""
        watcher = Watcher(plan)
        for made in record:
            watcher.see(made)
        try:
            if line == "rest":
                return "; ".join(map(call_text, watcher.rest())) or "none"
            if line == "trap":
                found = trap(plan)
                return "none" if found is None else "; ".join(map(call_text, found))
            if line == "conflict":
                return " ".join((conflict(plan) or ("none",))[:3])
            return " ".join(could_take(plan, record, int(line.removeprefix("who "))))
        except Lost as error:
            return self.refused(error) if line == "rest" else "none"
        except (NotFree, NoIndex) as error:
            return self.refused(error)

    def test_histories(self):
        seed = random.Random(161)
        for _ in range(60):
            plan = plan_by(seed, seed.choice([1, 2, 3, 4]), is_free=seed.random() < 0.6, least=seed.choice([0, 1, 2]))
            console = console_of(*["plan " + row for row in plan_text(plan).splitlines()])
            record = []
            for _ in range(25):
                what = seed.random()
                if what < 0.3:
                    made = seed.choice(CALLS)
                    record.append(made)
                    watcher = Watcher(plan)
                    verdicts = [watcher.see(one) for one in record]
                    self.assertEqual(console.reply("call " + call_text(made)), verdicts[-1])
                elif what < 0.45:
                    self.assertEqual(console.reply("undo"), "ok" if record else "refused noindex")
                    record = record[:-1]
                elif what < 0.5:
                    self.assertEqual(console.reply(seed.choice(WHAT)), "what")
                else:
                    line = seed.choice(["rest", "trap", "conflict", f"who {seed.randint(0, 4)}"])
                    self.assertEqual(console.reply(line), self.reply(plan, record, line))

    def test_what_is_replied_holds(self):
        seed = random.Random(162)
        traps = 0
        for _ in range(60):
            plan = plan_by(seed, seed.choice([1, 2, 3]), least=0, most=1)
            console = console_of(*["plan " + row for row in plan_text(plan).splitlines()])
            reply = console.reply("trap")
            if reply != "none":
                traps += 1
                record = [read_call(text) for text in reply.split("; ")]
                self.assertTrue(is_kept(plan, record))
                self.assertLess(len(first_fit(plan, record)), len(record))
        self.assertGreater(traps, 5)
        for _ in range(30):
            plan = plan_by(seed, seed.choice([1, 2]), is_free=False, least=2, most=2)
            console = console_of(*["plan " + row for row in plan_text(plan).splitlines()])
            reply = console.reply("rest")
            rest = [] if reply == "none" else [read_call(text) for text in reply.split("; ")]
            self.assertTrue(is_kept(plan, rest))
            self.assertEqual(len(rest), shortest(plan, [], 4))

    def test_answers_have_no_meaning_for_the_words(self):
        console = console_of("plan a 0..2 ** gives (1 \"x\")")
        self.assertEqual([console.reply("call it()") for _ in range(3)], ["kept", "kept", "lost"])
        self.assertEqual(console_of("plan a 0..2 **").reply("call it()"),
                         Watcher(Plan(Expectation("a", AnyCall(), least=0, most=2))).see(call("it")))


if __name__ == "__main__":
    unittest.main()
