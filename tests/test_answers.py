"""[180] and the interface's heading `ledgerproof/answers.py`."""

import random
import unittest

import things
from ledgerproof.answers import answer, journal_answer
from ledgerproof.bounds import bound
from ledgerproof.cores import core
from ledgerproof.errors import DoesNotHold, NeedsJournal, NeedsModel, NotASum, NotRefuted, ProofError, UnknownClaim
from ledgerproof.journals import Journal
from ledgerproof.ledgers import minimized, refutes, value
from ledgerproof.models import conserved
from ledgerproof.obligations import contributions, obligations
from ledgerproof.questions import read_question
from ledgerproof.reader import read_claim, read_constraint, read_model
from ledgerproof.sectors import distinguish, profiles
from ledgerproof.verdicts import decide, statuses_of
from printed import MODEL, check_examples

EXAMPLES = """
>>> from ledgerproof.answers import answer, journal_answer
>>> answer(model, read_question(model, ("profiles ", " or not ", ""), ("home", "firm")))
(0, 1, 3)
>>> answer(town, read_question(town, ("verdict c",)))
('holds', ((1, 0, 1),))
>>> answer(model, read_question(model, ("evaluate each firm: cash >= 0",)))
raises NotASum
>>> journal_answer(journal, read_question(model, ("evaluate ", " of all = 0"), ("cash",)))
0
>>> journal_answer(journal, read_question(model, ("statuses",)))
raises NeedsModel
>>> answer(model, read_question(model, ("types",)))
raises NeedsJournal
"""

TOWN = read_model(
    "sectors a; accounts x, y; type give: a [-x] to all [x]; type mint: a [] to all [y]; assume p: x of a >= 0;"
    " assume q: each a: x >= 0; claim c: x of a >= 0; claim d: y of all = 0;"
)
PAID = (("a",), (), ("a",)), (("give", 0, 1, 5), ("mint", 2, 0, 1), ("give", 2, 1, 3))


def paid_journal():
    return Journal(TOWN, participants=PAID[0], transactions=PAID[1])


def asked(text):
    return read_question(TOWN, (text,))


def told(call):
    """What the call returns, or the error that it raises with its attributes."""
    try:
        return call()
    except ProofError as error:
        return (type(error), vars(error))


class PrintedTest(unittest.TestCase):
    def test_examples_of_the_interface(self):
        journal = Journal(MODEL, participants=(("firm",), ("home",)), transactions=(("wage", 0, 1, 5),))
        town = (*TOWN[:4], TOWN[4][:1])
        check_examples(self, EXAMPLES, {"model": MODEL, "town": town, "journal": journal, "read_question": read_question})


class ModelTest(unittest.TestCase):
    def test_every_form(self):
        claim = read_claim(TOWN, "if y of all >= 0 then x of a + y of a >= 0")
        constraint = read_constraint(TOWN, "x of a - 2 y of all >= 0")
        a = ("sector", "a")
        for question, expected in (
            (("profiles", ("not", a)), (0,)),
            (("distinguish", a, ("all",)), 0),
            (("distinguish", a, ("not", ("not", a))), None),
            (("conserved",), ("x",)),
            (("obligations", claim), obligations(TOWN, claim)),
            (("decide", claim), decide(TOWN, claim)),
            (("bound", ((), constraint), read_constraint(TOWN, "y of all >= 0")), (2, 1)),
            (("bound", ((), constraint), read_constraint(TOWN, "x of a >= 0")), None),
            (("statuses",), (("c", "holds"), ("d", "refuted"))),
            (("core", "c"), ("p",)),
            (("verdict", "c"), ("holds", ((1, 0, 1),))),
            (("verdict", "d"), decide(TOWN, TOWN[4][1][1])),
            (("evaluate", constraint), contributions(TOWN, constraint)),
        ):
            self.assertEqual(answer(TOWN, question), expected, question)

    def test_questions_for_a_journal(self):
        for text in ("refutes x of all = 0", "minimize x of a >= 0", "minimize each none: x = 0", "types"):
            with self.assertRaises(NeedsJournal) as caught:
                answer(TOWN, asked(text))
            self.assertEqual(vars(caught.exception), {})

    def test_errors_of_the_functions(self):
        sums = ("each a: x >= 0", "x of a = 0", "each a: x = 0")
        for text in sums:
            with self.assertRaises(NotASum):
                answer(TOWN, asked("bound " + text + " by x of a >= 0"))
            with self.assertRaises(NotASum):
                answer(TOWN, asked("bound x of a >= 0 by " + text))
        with self.assertRaises(NotASum):
            answer(TOWN, asked("evaluate each a: x >= 0"))
        with self.assertRaises(DoesNotHold):
            answer(TOWN, asked("core d"))
        self.assertEqual(answer(TOWN, asked("evaluate x of a = 0")), answer(TOWN, asked("evaluate x of a >= 0")))

    def test_unknown_claims(self):
        # A question that was read for one model may be asked of another one.
        for model in (MODEL, (*TOWN[:4], ())):
            for word in ("core", "verdict"):
                for name in ("c", "d"):
                    with self.assertRaises(UnknownClaim) as caught:
                        answer(model, asked(word + " " + name))
                    self.assertEqual(vars(caught.exception), {"name": name})
        for word in ("core", "verdict"):
            for name in ("p", "give", "a", "x", "zzz"):
                with self.assertRaises(UnknownClaim) as caught:
                    answer(TOWN, (word, name))
                self.assertEqual(caught.exception.name, name)

    def test_as_the_functions(self):
        source = random.Random(180)
        for _ in range(200):
            model = things.small_model(source, (2, 2, 3, 2, 2))
            claim, constraint = things.small_claim(source, model), things.small_constraint(source, model)
            first, second = things.sector(source, model[0]), things.sector(source, model[0])
            pairs = [
                (("profiles", first), lambda: profiles(model, first)),
                (("distinguish", first, second), lambda: distinguish(model, first, second)),
                (("conserved",), lambda: conserved(model)),
                (("obligations", claim), lambda: obligations(model, claim)),
                (("decide", claim), lambda: decide(model, claim)),
                (("bound", claim, constraint), lambda: bound(model, claim, constraint)),
                (("statuses",), lambda: statuses_of(model)),
                (("evaluate", constraint), lambda: contributions(model, constraint)),
            ]
            for name, own in model[4]:
                pairs.append((("core", name), lambda name=name: core(model, name)))
                pairs.append((("verdict", name), lambda own=own: decide(model, own)))
            for question, call in pairs:
                self.assertEqual(told(lambda question=question: answer(model, question)), told(call))


class JournalTest(unittest.TestCase):
    def test_every_form(self):
        journal = paid_journal()
        for text, expected in (
            ("evaluate x of a >= 0", -8), ("evaluate 2 x of all - 3 y of a = 0", -3), ("evaluate each a: x - y >= 0", ((0, -6), (2, -3))),
            ("evaluate each none: x = 0", ()), ("refutes x of a >= 0", False), ("refutes x of all = 0", False), ("types", (("give", (0, 2)), ("mint", (1,)))),
        ):
            self.assertEqual(journal_answer(journal, asked(text)), expected, text)
        bare = Journal((*TOWN[:3], (), ()), participants=PAID[0], transactions=PAID[1])
        self.assertIs(journal_answer(bare, asked("refutes x of a >= 0")), True)
        self.assertEqual(journal_answer(bare, asked("minimize x of a >= 0")), (2,))
        self.assertEqual(journal_answer(bare, asked("minimize if y of a >= 0 then each all: x = 0")), (2,))
        self.assertEqual(journal_answer(bare, asked("minimize if -x of a - 5 y of all >= 0 then y of a = 0")), (0, 1))

    def test_questions_for_a_model(self):
        for text in (
            "profiles a", "distinguish a, not a", "conserved", "obligations x of a = 0", "decide x of a = 0", "bound x of a >= 0 by y of a >= 0",
            "bound each a: x = 0 by each a: x = 0", "statuses", "core c", "core d", "verdict c",
        ):
            with self.assertRaises(NeedsModel) as caught:
                journal_answer(paid_journal(), asked(text))
            self.assertEqual(vars(caught.exception), {})
        with self.assertRaises(NeedsModel):
            journal_answer(paid_journal(), ("core", "nobody"))

    def test_errors_of_the_methods(self):
        with self.assertRaises(NotRefuted) as caught:
            journal_answer(paid_journal(), asked("minimize x of all = 0"))
        self.assertEqual(vars(caught.exception), {})

    def test_evaluate_is_answered_by_both(self):
        question = asked("evaluate x of a = 0")
        self.assertEqual(journal_answer(paid_journal(), question), -8)
        self.assertEqual(answer(TOWN, question), (("give", 1, 0, -1), ("give", 1, 1, 0), ("mint", 1, 0, 0), ("mint", 1, 1, 0)))
        question = asked("evaluate each all: y = 0")
        self.assertEqual(journal_answer(paid_journal(), question), ((0, 1), (1, 0), (2, 0)))
        with self.assertRaises(NotASum):
            answer(TOWN, question)

    def test_the_journal_as_it_is(self):
        journal = paid_journal()
        self.assertEqual(journal_answer(journal, asked("evaluate y of a = 0")), 1)
        journal.post("mint", 0, 2, amount=4)
        self.assertEqual(journal_answer(journal, asked("evaluate y of a = 0")), 5)
        self.assertEqual(journal_answer(journal, asked("types")), (("give", (0, 2)), ("mint", (1, 3))))

    def test_as_the_methods(self):
        source = random.Random(1801)
        refuted = 0
        for _ in range(400):
            model = things.small_model(source, (2, 2, 3, 1, 0))
            people, transactions = things.ledger(source, model, 5, 8)
            journal = Journal(model, participants=people, transactions=transactions)
            claim, constraint = things.small_claim(source, model), things.small_constraint(source, model)
            self.assertEqual(journal_answer(journal, ("evaluate", constraint)), value(model, journal.ledger, constraint))
            self.assertIs(journal_answer(journal, ("refutes", claim)), refutes(model, journal.ledger, claim))
            self.assertEqual(journal_answer(journal, ("types",)), journal.by_type())
            refuted += refutes(model, journal.ledger, claim)
            self.assertEqual(
                told(lambda: journal_answer(journal, ("minimize", claim))), told(lambda: minimized(model, journal.ledger, claim)),
            )
            before = journal.ledger
            told(lambda: journal_answer(journal, ("decide", claim)))
            self.assertEqual(journal.ledger, before)
        self.assertGreater(refuted, 10)


if __name__ == "__main__":
    unittest.main()
