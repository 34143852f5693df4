"""The examples of the document as they stand there, each a session of its own."""

import doctest
import unittest

EXAMPLES = {
    "[9]": """
>>> from calltakers.cases import common, example
>>> from calltakers.patterns import Between
>>> (example(Between(0, 3), outside=[Between(1, 9)]), common(Between(0, 3), Between(4, 9)))
((0,), None)
""",
    "[12]": """
>>> from calltakers.assigning import assigned
>>> from calltakers.patterns import Between, Calls
>>> from calltakers.plans import Expectation, Plan
>>> from calltakers.values import call
>>> low, high = Expectation("low", Calls("it", Between(0, 5))), Expectation("high", Calls("it", Between(3, 9)))
>>> (assigned(Plan(low, high), [call("it", 4), call("it", 2)]), assigned(Plan(low, high), [call("it", 8), call("it", 9)]))
(('kept', ('high', 'low')), ('crowded', (0, 1)))
""",
    "[14]": """
>>> from calltakers.patterns import AnyCall, Calls
>>> from calltakers.plans import Expectation, Plan
>>> from calltakers.rules import conflict, narrowest
>>> from calltakers.values import call
>>> some, none = Expectation("any", AnyCall()), Expectation("bare", Calls("it"))
>>> (narrowest(Plan(some, none), [call("it"), call("it"), call("it")]), conflict(Plan(some, none)))
(('bare', 'any'), None)
""",
    "[16]": """
>>> from calltakers.patterns import Anything, Calls
>>> from calltakers.plans import Expectation, Plan
>>> from calltakers.values import call
>>> from calltakers.watching import Watcher
>>> first, later = Expectation("open", Calls("db.open", Anything())), Expectation("read", Calls("db.read"), least=0, most=2, after=["open"])
>>> watcher = Watcher(Plan(first, later))
>>> (watcher.verdict, watcher.see(call("db.open", "x")), watcher.see(call("db.read")), watcher.see(call("db.open", "x")))
('open', 'kept', 'kept', 'lost')
""",
    "[17]": """
>>> from calltakers.certainty import answers, certain_at
>>> from calltakers.patterns import AnyCall, Calls
>>> from calltakers.plans import Expectation, Plan
>>> from calltakers.values import call
>>> plan = Plan(Expectation("any", AnyCall(), answer=1), Expectation("bare", Calls("it"), answer=2))
>>> (answers(plan, [call("it")]), certain_at(plan, [call("it"), call("other")]))
([[1, 2]], [2, 2])
""",
    "[20]": """
>>> from calltakers.patterns import Anything, Calls
>>> from calltakers.standins import Fault, Standin
>>> db = Standin("db")
>>> db.will(Calls("db.open", Anything()), 7, Fault("busy"))
>>> (db.child("open").receive("x"), db.child("close").receive(), db.log())
(7, None, [(('db.open', ('x',), ()), ('gave', 7)), (('db.close', (), ()), ('gave', None))])
""",
    "[21]": """
>>> from calltakers.patterns import Between, Calls
>>> from calltakers.plans import Expectation, Plan
>>> from calltakers.strict import Strict
>>> low, high = Expectation("low", Calls("it", Between(0, 5))), Expectation("high", Calls("it", Between(3, 9)), answer="up")
>>> it = Strict(Plan(low, high))
>>> (it.receive(8), it.verdict, it.receive(4), it.verdict)
('up', 'open', None, 'kept')
""",
    "[22]": """
>>> from calltakers.places import Places
>>> places = Places([("mode", 1)])
>>> two, gone = places.replaced("mode", 2), places.replaced("mode")
>>> (two.begin(), gone.begin(), places.has("mode"), gone.end(), places.read("mode"), two.end(), places.read("mode"))
(None, None, False, None, 2, None, 1)
""",
    "[24]": """
>>> from calltakers.console import Console
>>> console = Console()
>>> (console.reply("plan low 1..1 it(0..5)"), console.reply("call it(4)"), console.reply("call it(4)"), console.reply("undo"), console.reply("who 0"))
('ok', 'kept', 'lost', 'ok', 'low')
""",
}


class Examples(unittest.TestCase):

    def test_examples(self):
        for name, text in EXAMPLES.items():
            said = []
            session = doctest.DocTestParser().get_doctest(text, {}, name, None, None)
            result = doctest.DocTestRunner(verbose=False).run(session, out=said.append)
            self.assertEqual(result.failed, 0, "".join(said))
            self.assertGreater(result.attempted, 2)


if __name__ == "__main__":
    unittest.main()
