"""[6], [70] to [73] and the interface's heading `ledgerproof/journals.py`."""

import random
import types
import unittest

import things
from ledgerproof.errors import BadParticipant, BadTransaction, NotRefuted, TooMany
from ledgerproof.journals import Journal
from ledgerproof.ledgers import balances, minimized, refutes, satisfies, value
from ledgerproof.reader import read_claim, read_constraint, read_model
from printed import MODEL, check_examples

EXAMPLES = """
>>> from ledgerproof.journals import Journal
>>> journal = Journal(model, participants=(("firm",), ("home",)), transactions=(("wage", 0, 1, 5),))
>>> journal.enter("firm", "home")
2
>>> journal.post("wage", 2, 1)
1
>>> journal.post("wage", 1, 2, amount=4)
raises BadTransaction(0, 'payer sector')
>>> journal.add((("bank",),), ())
raises BadParticipant(0)
>>> list(journal.history("cash"))
[(0, 0, 0), (-5, 5, 0), (-5, 6, -1)]
>>> journal.by_type()
(('wage', (0, 1)),)
>>> journal.ledger
((('firm',), ('home',), ('home', 'firm')), (('wage', 0, 1, 5), ('wage', 2, 1, 1)))
>>> journal.minimized(read_claim(model, "cash of firm >= 0"))
(1,)
"""

HUGE = 10 ** 60 - 1
PEOPLE = (("firm",), ("home",))
PAID = ("wage", 0, 1, 5)


def paid_journal():
    return Journal(MODEL, participants=PEOPLE, transactions=(PAID,))


class JournalTest(unittest.TestCase):
    def check_unchanged(self, journal, call, error, **attributes):
        """The call raises this error and leaves the journal as it was."""
        before = (journal.ledger, len(journal), list(journal), journal.by_type(), list(journal.history("cash")))
        with self.assertRaises(error) as caught:
            call()
        self.assertIs(type(caught.exception), error)
        self.assertEqual(vars(caught.exception), attributes)
        after = (journal.ledger, len(journal), list(journal), journal.by_type(), list(journal.history("cash")))
        self.assertEqual(after, before)


class PrintedTest(unittest.TestCase):
    def test_examples_of_the_interface(self):
        check_examples(self, EXAMPLES, {"model": MODEL, "read_claim": read_claim})


class MakingTest(JournalTest):
    def test_a_new_journal(self):
        journal = Journal(MODEL)
        self.assertEqual(journal.ledger, ((), ()))
        self.assertEqual((len(journal), list(journal), journal.by_type()), (0, [], ()))
        self.assertEqual(journal.model, MODEL)

    def test_with_participants_and_transactions(self):
        journal = paid_journal()
        self.assertEqual(journal.ledger, (PEOPLE, (PAID,)))
        self.assertEqual(Journal(MODEL, participants=PEOPLE).ledger, (PEOPLE, ()))

    def test_arguments_are_passed_by_name(self):
        with self.assertRaises(TypeError):
            Journal(MODEL, PEOPLE, ())

    def test_class_values(self):
        self.assertEqual((Journal.MOST_PARTICIPANTS, Journal.MOST_TRANSACTIONS), (40, 1000))
        self.assertEqual((paid_journal().MOST_PARTICIPANTS, paid_journal().MOST_TRANSACTIONS), (40, 1000))

    def test_participants_stand_in_the_order_of_the_model(self):
        people = (("firm", "home"), ("home", "firm"), ())
        self.assertEqual(Journal(MODEL, participants=people).ledger[0], (("home", "firm"), ("home", "firm"), ()))

    def test_it_raises_as_add_does(self):
        for people, transactions, error, attributes in (
            ((("firm",), ("bank",)), (), BadParticipant, {"number": 1}),
            ((("home", "home"),), (("pay", 0, 1, 1),), BadParticipant, {"number": 0}),
            (PEOPLE, (PAID, ("wage", 1, 0, 1)), BadTransaction, {"number": 1, "reason": "payer sector"}),
            ((("firm",),) * 41, (), TooMany, {}),
            (PEOPLE, (PAID,) * 1001, TooMany, {}),
        ):
            with self.assertRaises(error) as caught:
                Journal(MODEL, participants=people, transactions=transactions)
            self.assertEqual(vars(caught.exception), attributes)

    def test_bounds(self):
        journal = Journal(MODEL, participants=(("firm",), ("home",)) * 20, transactions=(PAID,) * 1000)
        self.assertEqual((len(journal.ledger[0]), len(journal)), (40, 1000))

    def test_properties_are_only_read(self):
        journal = paid_journal()
        for name in ("model", "ledger"):
            self.assertIsInstance(vars(Journal)[name], property)
            with self.assertRaises(AttributeError):
                setattr(journal, name, ())

    def test_methods_stand_in_the_class_itself(self):
        names = "add enter post history by_type value satisfies refutes minimized clone __len__ __iter__ __init__"
        for name in names.split():
            self.assertIn(name, vars(Journal))


class AddTest(JournalTest):
    def test_it_returns_how_many_transactions_there_are(self):
        journal = Journal(MODEL)
        self.assertEqual(journal.add((), ()), 0)
        self.assertEqual(journal.add(PEOPLE, ()), 0)
        self.assertEqual(journal.add((), (PAID, PAID)), 2)
        self.assertEqual(journal.add((("home", "firm"),), (("wage", 2, 1, 1),)), 3)
        self.assertEqual(journal.ledger, (PEOPLE + (("home", "firm"),), (PAID, PAID, ("wage", 2, 1, 1))))

    def test_transactions_name_participants_that_are_added_with_them(self):
        journal = Journal(MODEL)
        self.assertEqual(journal.add(PEOPLE, (PAID,)), 1)
        self.assertEqual(journal.add((("firm", "home"),), (("wage", 2, 1, 3), ("wage", 0, 2, HUGE))), 3)
        self.check_unchanged(journal, lambda: journal.add((("firm",),), (("wage", 4, 0, 1),)), BadTransaction, number=0, reason="payer")

    def test_bad_participants(self):
        for names in (("bank",), ("home", "home"), ("home", "firm", "home"), ("",), ("Home",), ("x" * 20,)):
            journal = paid_journal()
            self.check_unchanged(journal, lambda: journal.add((names,), ()), BadParticipant, number=0)
            self.check_unchanged(journal, lambda: journal.add((("home",), (), names, names), (PAID,)), BadParticipant, number=2)

    def test_bad_transactions(self):
        for transaction, reason in (
            (("pay", 9, 9, 0), "type"), (("wage", 9, 9, 0), "payer"), (("wage", -1, 9, 0), "payer"), (("wage", 0, 9, 0), "payee"),
            (("wage", 0, -1, 0), "payee"), (("wage", 1, 1, 0), "same"), (("wage", 1, 0, 0), "payer sector"),
            (("wage", 0, 2, 0), "payee sector"), (("wage", 0, 1, 0), "amount"), (("wage", 0, 1, -HUGE), "amount"),
        ):
            journal = Journal(MODEL, participants=PEOPLE + ((),), transactions=(PAID,))
            self.check_unchanged(journal, lambda: journal.add((), (transaction,)), BadTransaction, number=0, reason=reason)
            bad = (PAID, PAID, transaction, ("pay", 0, 0, 0))
            self.check_unchanged(journal, lambda: journal.add((("home",),), bad), BadTransaction, number=2, reason=reason)

    def test_participants_before_transactions(self):
        journal = paid_journal()
        self.check_unchanged(journal, lambda: journal.add((("bank",),), (("pay", 0, 1, 1),)), BadParticipant, number=0)
        self.check_unchanged(journal, lambda: journal.add((("home",),) * 39, (("pay", 0, 1, 1),)), TooMany)

    def test_more_than_forty_participants(self):
        journal = Journal(MODEL, participants=(("firm",),) * 38)
        self.assertEqual(journal.add((("home",),), ()), 0)
        self.check_unchanged(journal, lambda: journal.add((("home",), ("home",)), ()), TooMany)
        self.check_unchanged(journal, lambda: journal.add((("home",), ("bank",)), ()), BadParticipant, number=1)
        self.check_unchanged(journal, lambda: journal.add((("home",), ("home",), ("bank",)), ()), TooMany)
        self.assertEqual(journal.enter("home"), 39)
        self.check_unchanged(journal, lambda: journal.enter("home"), TooMany)
        self.check_unchanged(journal, lambda: journal.enter("bank"), BadParticipant, number=0)
        self.assertEqual(len(journal.ledger[0]), 40)

    def test_more_than_a_thousand_transactions(self):
        journal = Journal(MODEL, participants=PEOPLE, transactions=(PAID,) * 998)
        bad = ("wage", 0, 1, 0)
        self.assertEqual(journal.post("wage", 0, 1), 998)
        self.check_unchanged(journal, lambda: journal.add((), (PAID, PAID)), TooMany)
        self.check_unchanged(journal, lambda: journal.add((), (PAID, bad)), BadTransaction, number=1, reason="amount")
        self.check_unchanged(journal, lambda: journal.add((), (PAID, PAID, bad)), TooMany)
        self.assertEqual(journal.post("wage", 0, 1), 999)
        self.check_unchanged(journal, lambda: journal.post("wage", 0, 1), TooMany)
        self.check_unchanged(journal, lambda: journal.post("pay", 0, 1), BadTransaction, number=0, reason="type")
        self.assertEqual(journal.add((("home",),), ()), 1000)

    def test_a_thousand_and_one_at_once(self):
        journal = Journal(MODEL)
        self.check_unchanged(journal, lambda: journal.add(PEOPLE, (PAID,) * 1001), TooMany)
        self.assertEqual(journal.add(PEOPLE, (PAID,) * 1000), 1000)
        journal = Journal(MODEL)
        self.check_unchanged(journal, lambda: journal.add((("home",),) * 41, ()), TooMany)

    def test_what_was_returned_before_stays(self):
        journal = paid_journal()
        ledger, told, by_type = journal.ledger, journal.value(read_constraint(MODEL, "each all: cash = 0")), journal.by_type()
        kept = eval(repr((ledger, told, by_type)))
        journal.add((("home", "firm"),), (PAID, ("wage", 2, 1, 7)))
        self.assertEqual((ledger, told, by_type), kept)


class EnterAndPostTest(JournalTest):
    def test_enter(self):
        journal = Journal(MODEL)
        self.assertEqual([journal.enter(), journal.enter("home"), journal.enter("firm", "home")], [0, 1, 2])
        self.assertEqual(journal.ledger, (((), ("home",), ("home", "firm")), ()))
        for names in (("bank",), ("home", "home"), ("home", "firm", "bank"), ("a", "b", "c", "d", "e", "f")):
            self.check_unchanged(journal, lambda: journal.enter(*names), BadParticipant, number=0)

    def test_post(self):
        journal = Journal(MODEL, participants=PEOPLE)
        self.assertEqual(journal.post("wage", 0, 1), 0)
        self.assertEqual(journal.post("wage", 0, 1, amount=HUGE), 1)
        self.assertEqual(journal.ledger[1], (("wage", 0, 1, 1), ("wage", 0, 1, HUGE)))
        self.check_unchanged(journal, lambda: journal.post("wage", 0, 1, amount=0), BadTransaction, number=0, reason="amount")
        self.check_unchanged(journal, lambda: journal.post("pay", 0, 1), BadTransaction, number=0, reason="type")
        self.check_unchanged(journal, lambda: journal.post("wage", 1, 1), BadTransaction, number=0, reason="same")
        with self.assertRaises(TypeError):
            journal.post("wage", 0, 1, 4)


class CloneTest(JournalTest):
    def test_a_clone_is_the_same(self):
        journal = paid_journal()
        other = journal.clone()
        self.assertIs(type(other), Journal)
        self.assertEqual((other.model, other.ledger), (journal.model, journal.ledger))

    def test_changes_of_one_do_not_change_the_other(self):
        journal = paid_journal()
        other = journal.clone()
        kept = journal.ledger
        other.enter("home", "firm")
        other.post("wage", 2, 1, amount=3)
        self.assertEqual((journal.ledger, len(journal), journal.by_type()), (kept, 1, (("wage", (0,)),)))
        changed = other.ledger
        journal.post("wage", 0, 1)
        self.assertEqual(other.ledger, changed)
        self.assertEqual(len(journal), 2)
        self.assertEqual(list(other.history("cash"))[-1], (-5, 8, -3))
        self.assertEqual(list(journal.history("cash"))[-1], (-6, 6))

    def test_full_and_empty_journals(self):
        full = Journal(MODEL, participants=PEOPLE * 20, transactions=(PAID,) * 1000)
        self.assertEqual(full.clone().ledger, full.ledger)
        self.assertEqual(Journal(MODEL).clone().ledger, ((), ()))


class HistoryTest(JournalTest):
    TOWN = read_model("""sectors home, bank; accounts cash, debt;
        type loan: bank [-2 cash, debt] to all [2 cash, -debt]; type gift: home [-cash] to home [cash];""")

    def test_behind_each_transaction(self):
        journal = Journal(self.TOWN, participants=(("bank",), ("home",), ("home",)))
        journal.add((), (("loan", 0, 2, 3), ("gift", 2, 1, 5), ("gift", 1, 2, 1)))
        self.assertEqual(list(journal.history("cash")), [(0, 0, 0), (-6, 0, 6), (-6, 5, 1), (-6, 4, 2)])
        self.assertEqual(list(journal.history("debt")), [(0, 0, 0), (3, 0, -3), (3, 0, -3), (3, 0, -3)])

    def test_participants_that_came_later_stand_in_all_tuples(self):
        journal = paid_journal()
        journal.enter("home")
        self.assertEqual(list(journal.history("cash")), [(0, 0, 0), (-5, 5, 0)])

    def test_without_transactions_and_without_participants(self):
        self.assertEqual(list(Journal(MODEL).history("cash")), [()])
        self.assertEqual(list(Journal(MODEL, participants=PEOPLE).history("debt")), [(0, 0)])

    def test_it_is_a_generator(self):
        history = paid_journal().history("cash")
        self.assertIsInstance(history, types.GeneratorType)
        self.assertIs(type(next(history)), tuple)

    def test_in_part_and_two_at_once(self):
        journal = Journal(MODEL, participants=PEOPLE, transactions=(PAID, PAID, PAID))
        expected = [(0, 0), (-5, 5), (-10, 10), (-15, 15)]
        first = journal.history("cash")
        self.assertEqual([next(first), next(first)], expected[:2])
        second = journal.history("cash")
        third = journal.history("debt")
        self.assertEqual(next(second), expected[0])
        self.assertEqual(next(third), (0, 0))
        self.assertEqual(next(first), expected[2])
        self.assertEqual(list(second), expected[1:])
        self.assertEqual(list(first), expected[3:])
        self.assertEqual(list(third), [(0, 0)] * 3)
        self.assertEqual(list(journal.history("cash")), expected)

    def test_the_last_tuple_is_that_of_the_balances(self):
        source = random.Random(72)
        for _ in range(100):
            model = things.model(source, 2, (3, 4, 5, 0, 0))
            people, transactions = things.ledger(source, model)
            journal = Journal(model, participants=people, transactions=transactions)
            for k, account in enumerate(model[1]):
                told = list(journal.history(account))
                self.assertEqual(len(told), len(transactions) + 1)
                for many, row in enumerate(told):
                    part = balances(model, (people, transactions[:many]))
                    self.assertEqual(row, tuple(person[k] for person in part))


class ByTypeTest(JournalTest):
    def test_in_the_order_in_which_they_occur_first(self):
        model = read_model("sectors; accounts x; type a: all [] to all []; type b: all [] to all []; type c: all [] to all [];")
        journal = Journal(model, participants=((), ()))
        for name in "cacbacc":
            journal.post(name, 0, 1)
        self.assertEqual(journal.by_type(), (("c", (0, 2, 5, 6)), ("a", (1, 4)), ("b", (3,))))

    def test_no_transactions(self):
        self.assertEqual(Journal(MODEL).by_type(), ())
        self.assertEqual(Journal(MODEL, participants=PEOPLE).by_type(), ())

    def test_length_and_iteration(self):
        journal = paid_journal()
        self.assertEqual((len(journal), list(journal)), (1, [PAID]))
        journal.post("wage", 0, 1, amount=2)
        self.assertEqual((len(journal), tuple(journal)), (2, (PAID, ("wage", 0, 1, 2))))
        self.assertEqual([amount for _, _, _, amount in journal], [5, 2])
        self.assertEqual(list(journal), list(journal))


class AskingTest(JournalTest):
    def test_like_the_functions_of_ledgers(self):
        source = random.Random(70)
        refuted = 0
        for _ in range(200):
            model = things.model(source, 2, (2, 2, 4, 1, 0))
            ledger = things.ledger(source, model)
            journal = Journal(model, participants=ledger[0], transactions=ledger[1])
            constraint, claim = things.constraint(source, model), things.claim(source, model, 2, 2, 1)
            self.assertEqual(journal.value(constraint), value(model, ledger, constraint))
            self.assertIs(journal.satisfies(constraint), satisfies(model, ledger, constraint))
            self.assertIs(journal.refutes(claim), refutes(model, ledger, claim))
            if journal.refutes(claim):
                refuted += 1
                self.assertEqual(journal.minimized(claim), minimized(model, ledger, claim))
            else:
                with self.assertRaises(NotRefuted):
                    journal.minimized(claim)
        self.assertGreater(refuted, 10)

    def test_they_tell_of_what_is_there_now(self):
        journal = paid_journal()
        constraint, claim = read_constraint(MODEL, "cash of home >= 0"), read_claim(MODEL, "cash of firm >= 0")
        self.assertEqual(journal.value(constraint), 5)
        journal.post("wage", 0, 1, amount=4)
        self.assertEqual(journal.value(constraint), 9)
        self.assertEqual(journal.minimized(claim), (1,))
        self.assertIs(journal.refutes(claim), True)
        self.assertIs(journal.satisfies(constraint), True)


if __name__ == "__main__":
    unittest.main()
