"""[30] to [35]: premises, mentioned accounts, scripts, conserved accounts."""

import unittest

from ledgerproof.models import changed, conserved, mentioned, premises_of
from printed import MODEL, check_examples

EXAMPLES = """
>>> from ledgerproof.models import changed, conserved, mentioned, premises_of
>>> conserved(model)
('cash', 'debt')
>>> fee = ("type", "fee", ("sector", "home"), (("cash", -3), ("debt", 1)), ("sector", "firm"), (("cash", 2), ("debt", -1)))
>>> conserved(changed(model, (fee,)))
('debt',)
>>> changed(model, (fee, ("drop", "fee"))) == model
True
>>> solvent = ("each", ("sector", "firm"), ((1, "cash"),), ">=")
>>> richer = changed(model, (("assume", "solvent", solvent),))
>>> richer[3]
(('solvent', ('each', ('sector', 'firm'), ((1, 'cash'),), '>=')),)
>>> balanced = ((("sum", ((1, "debt", ("all",)),), "="),), ("sum", ((2, "cash", ("sector", "home")), (-1, "cash", ("all",))), ">="))
>>> premises_of(richer, balanced)
(('each', ('sector', 'firm'), ((1, 'cash'),), '>='), ('sum', ((1, 'debt', ('all',)),), '='))
>>> mentioned(richer, balanced)
('cash', 'debt')
"""

ALL = ("all",)
NONE = ("none",)
A = ("sector", "a")


def sum_of(*accounts):
    return ("sum", tuple((1, account, ALL) for account in accounts), ">=")


def each_of(*accounts):
    return ("each", A, tuple((-2, account) for account in accounts), "=")


def give(name, payer_entries=(("x", -1),), payee_entries=(("x", 1),), payer=ALL, payee=ALL):
    return (name, payer, payer_entries, payee, payee_entries)


def with_types(*types):
    return (("a",), ("w", "x", "y", "z"), types, (), ())


BARE = with_types()
FULL = (
    ("a",),
    ("w", "x", "y", "z"),
    (give("t"), give("u")),
    (("p", each_of("z")), ("q", sum_of("x"))),
    (("c", ((), sum_of("w"))), ("d", ((sum_of("y"),), each_of("x")))),
)


class PrintedTest(unittest.TestCase):
    def test_examples_of_the_interface(self):
        check_examples(self, EXAMPLES, {"model": MODEL})


class PremisesTest(unittest.TestCase):
    def test_assumptions_first_then_own_premises_in_order(self):
        claim = ((each_of("w"), sum_of("z"), each_of("y")), sum_of("x"))
        expected = (each_of("z"), sum_of("x"), each_of("w"), sum_of("z"), each_of("y"))
        self.assertEqual(premises_of(FULL, claim), expected)

    def test_no_assumptions_or_no_own_premises(self):
        self.assertEqual(premises_of(BARE, ((), sum_of("x"))), ())
        self.assertEqual(premises_of(BARE, ((sum_of("y"),), sum_of("x"))), (sum_of("y"),))
        self.assertEqual(premises_of(FULL, ((), sum_of("x"))), (each_of("z"), sum_of("x")))

    def test_equal_premises_stay(self):
        claim = ((sum_of("x"), sum_of("x")), sum_of("x"))
        self.assertEqual(premises_of(FULL, claim), (each_of("z"), sum_of("x"), sum_of("x"), sum_of("x")))

    def test_claims_of_the_model_are_under_the_assumptions_too(self):
        self.assertEqual(premises_of(FULL, FULL[4][1][1]), (each_of("z"), sum_of("x"), sum_of("y")))

    def test_beyond_the_bounds(self):
        claim = (tuple([sum_of("w")] * 9), sum_of("x"))
        self.assertEqual(len(premises_of(FULL, claim)), 11)


class MentionedTest(unittest.TestCase):
    def test_conclusion(self):
        self.assertEqual(mentioned(BARE, ((), sum_of("x"))), ("x",))
        self.assertEqual(mentioned(BARE, ((), each_of("y"))), ("y",))

    def test_own_premises(self):
        self.assertEqual(mentioned(BARE, ((sum_of("w"), each_of("z")), sum_of("x"))), ("w", "x", "z"))

    def test_assumptions(self):
        self.assertEqual(mentioned(FULL, ((), each_of("w"))), ("w", "x", "z"))
        self.assertEqual(mentioned(FULL, ((each_of("y"),), sum_of("w"))), ("w", "x", "y", "z"))

    def test_order_is_that_of_the_model(self):
        self.assertEqual(mentioned(BARE, ((), sum_of("z", "x", "w", "x"))), ("w", "x", "z"))
        self.assertEqual(mentioned(BARE, ((each_of("z", "y"),), each_of("y", "x"))), ("x", "y", "z"))

    def test_claims_of_the_model_have_no_influence(self):
        model = BARE[:4] + (FULL[4],)
        self.assertEqual(mentioned(model, ((), sum_of("z"))), ("z",))

    def test_sectors_are_not_accounts(self):
        model = (("x", "y"), ("y", "x"), (), (), ())
        claim = ((("each", ("sector", "y"), ((1, "x"),), ">="),), ("sum", ((3, "x", ("sector", "y")),), "="))
        self.assertEqual(mentioned(model, claim), ("x",))


class ChangedTest(unittest.TestCase):
    def test_empty_script(self):
        self.assertEqual(changed(FULL, ()), FULL)

    def test_new_things_go_behind_the_others_of_their_sort(self):
        fresh = give("v", payer=A, payee_entries=(("y", 7), ("x", -1)))
        self.assertEqual(changed(FULL, (("type", *fresh),)), FULL[:2] + (FULL[2] + (fresh,),) + FULL[3:])
        assumed = changed(FULL, (("assume", "r", each_of("w")),))
        self.assertEqual(assumed, FULL[:3] + (FULL[3] + (("r", each_of("w")),), FULL[4]))
        claim = ((each_of("y"),), sum_of("w"))
        claimed = changed(FULL, (("claim", "e", claim),))
        self.assertEqual(claimed, FULL[:4] + (FULL[4] + (("e", claim),),))

    def test_drop_of_each_sort(self):
        self.assertEqual(changed(FULL, (("drop", "t"),)), FULL[:2] + (FULL[2][1:],) + FULL[3:])
        self.assertEqual(changed(FULL, (("drop", "u"),)), FULL[:2] + (FULL[2][:1],) + FULL[3:])
        self.assertEqual(changed(FULL, (("drop", "p"),)), FULL[:3] + (FULL[3][1:], FULL[4]))
        self.assertEqual(changed(FULL, (("drop", "d"),)), FULL[:4] + (FULL[4][:1],))

    def test_drop_leaves_sectors_and_accounts_of_the_same_name(self):
        model = (("a",), ("a",), (give("a", (), ()),), (), ())
        self.assertEqual(changed(model, (("drop", "a"),)), (("a",), ("a",), (), (), ()))

    def test_statements_are_applied_in_order(self):
        script = (
            ("drop", "t"),
            ("claim", "t", ((), sum_of("y"))),
            ("drop", "p"),
            ("type", *give("p", (), (("z", 3),))),
            ("assume", "r", sum_of("z")),
            ("assume", "s", each_of("z")),
        )
        expected = (
            ("a",),
            ("w", "x", "y", "z"),
            (give("u"), give("p", (), (("z", 3),))),
            (("q", sum_of("x")), ("r", sum_of("z")), ("s", each_of("z"))),
            FULL[4] + (("t", ((), sum_of("y"))),),
        )
        self.assertEqual(changed(FULL, script), expected)

    def test_a_dropped_name_is_used_again(self):
        fresh = give("t", (), ())
        expected = FULL[:2] + ((FULL[2][1], fresh),) + FULL[3:]
        self.assertEqual(changed(FULL, (("drop", "t"), ("type", *fresh))), expected)

    def test_the_model_that_was_passed_is_as_it_was(self):
        kept = eval(repr(FULL))
        changed(FULL, (("drop", "t"), ("drop", "q"), ("claim", "e", ((), sum_of("w"))), ("drop", "c")))
        self.assertEqual(FULL, kept)

    def test_everything_in_it_is_a_tuple(self):
        model = changed(FULL, (("drop", "t"), ("assume", "r", sum_of("z"))))
        self.assertIs(type(model), tuple)
        for part in model:
            self.assertIs(type(part), tuple)

    def test_beyond_the_bounds(self):
        script = tuple(("type", *give("n" + "a" * k)) for k in range(9))
        self.assertEqual(len(changed(FULL, script)[2]), 11)


class ConservedTest(unittest.TestCase):
    def test_without_types(self):
        self.assertEqual(conserved(BARE), ("w", "x", "y", "z"))

    def test_both_entries_add_up_to_nothing(self):
        self.assertEqual(conserved(with_types(give("t"))), ("w", "x", "y", "z"))
        self.assertEqual(conserved(with_types(give("t", (("x", -2),)))), ("w", "y", "z"))
        self.assertEqual(conserved(with_types(give("t", (("x", 1),)))), ("w", "y", "z"))

    def test_entries_on_one_side_only(self):
        self.assertEqual(conserved(with_types(give("t", (), (("y", 1),)))), ("w", "x", "z"))
        self.assertEqual(conserved(with_types(give("t", (("z", -1),), ()))), ("w", "x", "y"))
        self.assertEqual(conserved(with_types(give("t", (("z", -1),), (("w", 1),)))), ("x", "y"))

    def test_entries_stand_in_any_order(self):
        crossed = give("t", (("z", 4), ("w", -3), ("y", 1)), (("y", -1), ("z", -4), ("w", 2)))
        self.assertEqual(conserved(with_types(crossed)), ("x", "y", "z"))

    def test_every_type_counts_by_itself(self):
        types = (give("t", (("x", 1),), ()), give("u", (("x", -1),), ()), give("v"))
        self.assertEqual(conserved(with_types(*types)), ("w", "y", "z"))

    def test_a_type_without_payers_or_payees_does_not_count(self):
        broken = (("x", 5),)
        empty = ("and", A, ("not", A))
        for payer, payee in ((NONE, ALL), (ALL, NONE), (empty, A), (A, empty), (NONE, NONE)):
            with self.subTest(payer=payer, payee=payee):
                model = with_types(give("t", broken, (), payer, payee))
                self.assertEqual(conserved(model), ("w", "x", "y", "z"))
        self.assertEqual(conserved(with_types(give("t", broken, (), A, ("not", A)))), ("w", "y", "z"))

    def test_without_sectors(self):
        model = ((), ("x", "y"), (give("t", (("y", 1),), ()),), (), ())
        self.assertEqual(conserved(model), ("x",))


if __name__ == "__main__":
    unittest.main()
