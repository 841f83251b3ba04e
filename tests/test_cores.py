"""[152] to [155] and the interface's heading `ledgerproof/cores.py`."""

import itertools
import random
import unittest

import things
from ledgerproof.cores import causes, core, idle, needed
from ledgerproof.errors import DoesNotHold, NotRefuted, UnknownClaim
from ledgerproof.models import changed, mentioned, premises_of
from ledgerproof.obligations import obligations, system_of, unit_transactions
from ledgerproof.reader import read_claim, read_model, read_script
from ledgerproof.verdicts import decide
from printed import check_examples

EXAMPLES = """
>>> from ledgerproof.cores import causes, core, idle, needed
>>> town = read_model("sectors a; accounts x, y; type give: a [-x] to all [x]; type mint: a [] to all [y]; assume p: x of a >= 0; assume q: each a: x >= 0; claim c: x of a >= 0;")
>>> core(town, "c")
('p',)
>>> core(town, "p")
raises UnknownClaim('p')
>>> needed(town, read_claim(town, "if y of all >= 0 then x of a + y of a >= 0"))
(0,)
>>> causes(town, read_claim(town, "y of all = 0"))
('mint',)
>>> idle(town, read_claim(town, "x of all = 0"))
('mint',)
>>> needed(town, read_claim(town, "y of all = 0"))
raises DoesNotHold
"""

ONE = read_model("""
sectors a; accounts x, y, z;
type give: a [-x] to all [x]; type mint: all [] to a [y]; type burn: a [-y] to all []; type swap: a [-z] to not a [z];
""")


def with_statements(model, text):
    return changed(model, read_script(model, text))


def holds(model, claim):
    return decide(model, claim)[0] == "holds"


def assuming(model, names):
    """The model with the assumptions of these names alone."""
    return (*model[:3], tuple(one for one in model[3] if one[0] in names), model[4])


def with_types(model, names):
    return (*model[:2], tuple(one for one in model[2] if one[0] in names), *model[3:])


def slow_left(things_left, goes):
    """What remains if each one is left out, from the last to the first, where it goes."""
    left = list(things_left)
    for thing in reversed(things_left):
        others = [other for other in left if other != thing]
        if goes(others):
            left = others
    return tuple(left)


def models(seed, count):
    source = random.Random(seed)
    for _ in range(count):
        yield things.small_model(source, (2, 2, 4, 3, 4))


class PrintedTest(unittest.TestCase):
    def test_examples_of_the_interface(self):
        check_examples(self, EXAMPLES, {"read_model": read_model, "read_claim": read_claim})


class CoreTest(unittest.TestCase):
    def check(self, text, told):
        """The core of the claim c in the model with these assumptions and claims."""
        model = with_statements(ONE, text)
        self.assertEqual(core(model, "c"), told)
        claim = dict(model[4])["c"]
        self.assertTrue(holds(assuming(model, told), claim))
        for name in told:
            self.assertFalse(holds(assuming(model, [other for other in told if other != name]), claim))

    def test_none(self):
        self.check("claim c: x of all = 0;", ())
        self.check("assume p: x of a = 0; assume q: y of all >= 0; claim c: x of all = 0;", ())
        self.check("assume p: x of a = 0; claim c: each none: x = 0;", ())

    def test_all(self):
        self.check("assume p: x of a >= 0; assume q: y of all = 0; assume r: z of a >= 0; claim c: x of a - y of a + z of a >= 0;",
                   ("p", "q", "r"))
        self.check("assume p: y of a = 0; claim c: y of all = 0;", ("p",))

    def test_some(self):
        self.check("assume p: x of a >= 0; assume q: y of all = 0; assume r: z of a >= 0; claim c: x of a + z of a >= 0;", ("p", "r"))
        self.check("assume r: x of a >= 0; assume q: y of all = 0; assume p: z of a >= 0; claim c: y of all >= 0;", ("q",))
        self.check("assume r: x of a >= 0; assume q: y of all = 0; assume p: z of a >= 0; claim c: z of a >= 0;", ("p",))
        self.check("assume r: x of a >= 0; assume q: y of all = 0; assume p: z of a >= 0; claim c: x of a + z of a >= 0;", ("r", "p"))

    def test_assumptions_that_stand_for_one_another(self):
        # The last one is left out first, so the earlier one remains.
        one, other = "assume p: x of a >= 0;", "assume q: each a: x >= 0;"
        claim = "claim c: x of a >= 0;"
        self.check(one + other + claim, ("p",))
        self.check(other + one + claim, ("q",))
        self.check(one + "assume r: 2 x of a >= 0;" + other + claim, ("p",))
        self.check("assume p: x of a >= 0; assume q: y of all >= 0; assume r: x of a + y of all >= 0; claim c: x of a + y of all >= 0;",
                   ("p", "q"))
        self.check("assume r: x of a + y of all >= 0; assume p: x of a >= 0; assume q: y of all >= 0; claim c: x of a + y of all >= 0;",
                   ("r",))

    def test_own_premises_remain(self):
        self.check("assume p: x of a >= 0; claim c: if x of a >= 0 then x of a >= 0;", ())
        self.check("assume p: x of a >= 0; assume q: z of a >= 0; claim c: if each a: x >= 0 then x of a + z of a >= 0;", ("q",))
        self.check("assume p: x of a >= 0; claim c: if z of a >= 0, y of all >= 0 then x of a + z of a >= 0;", ("p",))

    def test_unknown_claims(self):
        model = with_statements(ONE, "assume p: x of a = 0; claim c: x of all = 0; claim d: x of a >= 0;")
        bare = read_model("sectors a; accounts x; type t: a [-x] to all [x]; assume p: x of a = 0;")
        for name in ("e", "", "give", "p", "x", "a", "C", "claim", "?" * 20, "c "):
            with self.assertRaises(UnknownClaim) as caught:
                core(model, name)
            self.assertEqual(vars(caught.exception), {"name": name})
        for name in ("t", "p", "c", ""):
            with self.assertRaises(UnknownClaim) as caught:
                core(bare, name)
            self.assertEqual(caught.exception.name, name)

    def test_claims_that_do_not_hold(self):
        model = with_statements(ONE, "assume p: y of all >= 0; claim c: x of a >= 0; claim d: x of all = 0;")
        with self.assertRaises(DoesNotHold) as caught:
            core(model, "c")
        self.assertEqual(vars(caught.exception), {})
        self.assertEqual(core(model, "d"), ())
        # An unknown claim is told before anything is decided.
        with self.assertRaises(UnknownClaim):
            core(model, "e")

    def test_over_many_models(self):
        sizes = {}
        refused = 0
        for model in models(152, 250):
            for name, claim in model[4]:
                if not holds(model, claim):
                    refused += 1
                    with self.assertRaises(DoesNotHold):
                        core(model, name)
                    continue
                told = core(model, name)
                names = tuple(one[0] for one in model[3])
                self.assertEqual(told, slow_left(names, lambda left: holds(assuming(model, left), claim)))
                self.assertTrue(holds(assuming(model, told), claim))
                for one in told:
                    self.assertFalse(holds(assuming(model, [other for other in told if other != one]), claim))
                # What stands outside of the core may be dropped, and so may types and other claims.
                for other in (*[one for one in names if one not in told], *[kind[0] for kind in model[2]]):
                    self.assertTrue(holds(changed(model, (("drop", other),)), claim))
                for other, _ in model[4]:
                    if other != name:
                        self.assertEqual(core(changed(model, (("drop", other),)), name), told)
                sizes[len(told)] = sizes.get(len(told), 0) + 1
        self.assertGreater(min(sizes[0], sizes[1], refused), 20)
        self.assertGreater(sizes[2], 0)


class NeededTest(unittest.TestCase):
    def check(self, model, text, told):
        claim = read_claim(model, text)
        self.assertEqual(needed(model, claim), told)
        premises = premises_of(model, claim)
        bare = assuming(model, ())
        self.assertTrue(holds(bare, (tuple(premises[k] for k in told), claim[1])))
        for number in told:
            self.assertFalse(holds(bare, (tuple(premises[k] for k in told if k != number), claim[1])))

    def test_none(self):
        self.check(ONE, "x of all = 0", ())
        self.check(ONE, "if x of a = 0, each a: y >= 0 then x of all = 0", ())
        self.check(with_statements(ONE, "assume p: x of a = 0;"), "if x of a >= 0 then x of all = 0", ())
        self.check(ONE, "if x of a = 0 then each none: x = 0", ())

    def test_own_premises(self):
        self.check(ONE, "if x of a >= 0, y of all >= 0, z of a >= 0 then x of a + z of a >= 0", (0, 2))
        self.check(ONE, "if y of all >= 0, x of a = 0 then x of a = 0", (1,))
        self.check(ONE, "if y of all >= 0, each a: x = 0, each all: z = 0 then x of a + y of a + z of a >= 0", (0, 1, 2))
        # Members of a can only lose z, so that the last premise is not needed.
        self.check(ONE, "if y of all >= 0, each a: x = 0, each all: z = 0 then x of a + y of a - z of a >= 0", (0, 1))

    def test_of_assumptions_and_own_ones(self):
        model = with_statements(ONE, "assume p: x of a >= 0; assume q: y of all = 0;")
        self.check(model, "x of a - y of a >= 0", (0, 1))
        self.check(model, "if z of a >= 0 then x of a + z of a >= 0", (0, 2))
        self.check(model, "if z of a >= 0, x of a >= 0 then x of a >= 0", (0,))
        self.check(model, "if z of a >= 0, x of a >= 0 then z of a >= 0", (2,))
        self.check(model, "if y of all = 0 then y of all = 0", (1,))
        model = with_statements(ONE, "assume p: y of all >= 0;")
        self.check(model, "if y of all = 0 then y of all = 0", (1,))
        self.check(model, "if -y of all >= 0 then y of all = 0", (0, 1))

    def test_the_same_premise_twice(self):
        self.check(ONE, "if x of a >= 0, x of a >= 0 then x of a >= 0", (0,))
        self.check(ONE, "if y of all >= 0, x of a >= 0, z of a >= 0, x of a >= 0 then x of a >= 0", (1,))
        model = with_statements(ONE, "assume p: z of a >= 0; assume q: x of a >= 0; assume r: x of a >= 0;")
        self.check(model, "if x of a >= 0 then x of a >= 0", (1,))
        self.check(model, "if x of a >= 0, z of a >= 0 then x of a + z of a >= 0", (0, 1))

    def test_claims_that_do_not_hold(self):
        model = with_statements(ONE, "assume p: y of all >= 0;")
        for text in ("x of a >= 0", "if x of a >= 0 then y of all = 0", "each a: x = 0"):
            with self.assertRaises(DoesNotHold) as caught:
                needed(model, read_claim(model, text))
            self.assertEqual(vars(caught.exception), {})

    def test_over_many_models(self):
        sizes = {}
        refused = 0
        for model in models(153, 200):
            for _, claim in model[4]:
                if not holds(model, claim):
                    refused += 1
                    with self.assertRaises(DoesNotHold):
                        needed(model, claim)
                    continue
                told = needed(model, claim)
                premises = premises_of(model, claim)
                bare = assuming(model, ())

                def goes(left):
                    return holds(bare, (tuple(premises[number] for number in left), claim[1]))

                self.assertEqual(told, slow_left(tuple(range(len(premises))), goes))
                self.assertTrue(goes(told))
                for number in told:
                    self.assertFalse(goes([other for other in told if other != number]))
                sizes[len(told)] = sizes.get(len(told), 0) + 1
        self.assertGreater(min(sizes[0], sizes[1], refused), 20)
        self.assertGreater(sizes[2], 5)


class CausesTest(unittest.TestCase):
    def check(self, model, text, told):
        claim = read_claim(model, text)
        self.assertEqual(causes(model, claim), told)
        self.assertFalse(holds(with_types(model, told), claim))
        for name in told:
            self.assertTrue(holds(with_types(model, [other for other in told if other != name]), claim))

    def test_types_that_refute_each_alone(self):
        # The last one is left out first.
        self.check(ONE, "x of a + z of a >= 0", ("give",))
        self.check(ONE, "y of all = 0", ("mint",))
        other = with_statements(ONE, "drop mint; type mint: all [] to a [y];")
        self.check(other, "y of all = 0", ("burn",))
        self.check(ONE, "-y of all >= 0", ("mint",))
        self.check(ONE, "y of all >= 0", ("burn",))

    def test_types_that_refute_together_only(self):
        self.check(ONE, "if y of all = 0 then each a: y = 0", ("mint", "burn"))
        self.check(ONE, "if x of a - z of a >= 0 then x of a >= 0", ("give", "swap"))
        model = read_model("sectors; accounts x, y; type t: all [-x] to all []; type u: all [] to all [y]; type v: all [] to all [x];")
        self.check(model, "if x of all >= 0, x of all - y of all >= 0 then -y of all >= 0", ("u", "v"))

    def test_the_same_type_under_two_names(self):
        model = read_model("sectors; accounts x; type t: all [-x] to all []; type u: all [-x] to all [];")
        self.check(model, "x of all >= 0", ("t",))
        model = read_model("sectors; accounts x; type u: all [-x] to all []; type t: all [-x] to all []; type s: all [] to all [x];")
        self.check(model, "x of all >= 0", ("u",))
        self.check(model, "if x of all = 0 then each all: x = 0", ("u", "s"))

    def test_only_types_with_units_are_told(self):
        model = read_model("sectors; accounts x; type t: none [-x] to all []; type u: all [-x] to all []; type v: all [] to all [];")
        self.check(model, "x of all >= 0", ("u",))

    def test_claims_that_hold(self):
        for text in ("x of all = 0", "if x of a >= 0 then x of a >= 0", "each none: x = 0"):
            with self.assertRaises(NotRefuted) as caught:
                causes(ONE, read_claim(ONE, text))
            self.assertEqual(vars(caught.exception), {})
        with self.assertRaises(NotRefuted):
            causes(with_types(ONE, ()), read_claim(ONE, "x of a = 0"))

    def test_over_many_models(self):
        sizes = {}
        refused = 0
        for model in models(154, 200):
            for _, claim in model[4]:
                if holds(model, claim):
                    refused += 1
                    with self.assertRaises(NotRefuted):
                        causes(model, claim)
                    continue
                told = causes(model, claim)
                names = tuple(kind[0] for kind in model[2])
                self.assertEqual(told, slow_left(names, lambda left: not holds(with_types(model, left), claim)))
                self.assertFalse(holds(with_types(model, told), claim))
                for name in told:
                    self.assertTrue(holds(with_types(model, [other for other in told if other != name]), claim))
                sizes[len(told)] = sizes.get(len(told), 0) + 1
        self.assertGreater(min(sizes[1], refused), 50)
        self.assertGreater(sizes[2], 5)


class IdleTest(unittest.TestCase):
    def check(self, model, text, told):
        self.assertEqual(idle(model, read_claim(model, text)), told)

    def test_accounts_that_are_not_mentioned(self):
        self.check(ONE, "x of a >= 0", ("mint", "burn", "swap"))
        self.check(ONE, "if y of all >= 0 then each a: x >= 0", ("swap",))
        self.check(ONE, "if y of all >= 0, each all: z = 0 then each a: x >= 0", ())
        self.check(with_statements(ONE, "assume p: z of a >= 0;"), "x of a >= 0", ("mint", "burn"))

    def test_types_without_entries(self):
        model = with_statements(ONE, "type still: all [] to all [];")
        self.check(model, "if y of all >= 0, each all: z = 0 then each a: x >= 0", ("still",))

    def test_types_without_units(self):
        model = read_model("sectors a; accounts x; type t: none [-x] to all [x]; type u: all [-x] to a and not a [x]; type v: all [-x] to a [x];")
        self.check(model, "each all: x >= 0", ("t", "u"))

    def test_contributions_that_cancel(self):
        self.check(ONE, "x of all >= 0", ("give", "mint", "burn", "swap"))
        self.check(ONE, "x of all + z of a >= 0", ("give", "mint", "burn"))
        # A gift among the members of a cancels, but one to somebody else does not.
        self.check(ONE, "if y of all >= 0 then x of a + y of a >= 0", ("swap",))
        model = read_model("sectors a; accounts x, y; type t: a [-x, y] to a [x, -y]; type u: a [x, y] to not a [x, -y];")
        self.check(model, "x of a + y of a >= 0", ("t",))
        self.check(model, "x of a - y of a >= 0", ("t", "u"))
        self.check(model, "each a: x + y >= 0", ("t",))
        self.check(model, "each a: x - y >= 0", ("u",))
        self.check(model, "x of none >= 0", ("t", "u"))

    def test_what_counts_in_one_obligation_only(self):
        model = read_model("sectors a; accounts x; type t: a [-x] to a [x]; type u: not a [-x] to not a [x];")
        self.check(model, "each a: x >= 0", ("u",))
        self.check(model, "each not a: x = 0", ("t",))
        self.check(model, "each all: x = 0", ())
        # Without a distinguished participant in a what members of a pay one another adds nothing to their group.
        self.check(model, "if each a: x >= 0 then each not a: x = 0", ("t",))
        self.check(model, "if each a: x >= 0 then each all: x = 0", ())

    def test_claims_without_obligations(self):
        self.check(ONE, "each none: x = 0", ("give", "mint", "burn", "swap"))
        self.check(ONE, "if x of a = 0 then each a and not a: x = 0", ("give", "mint", "burn", "swap"))
        self.check(with_types(ONE, ()), "x of a = 0", ())

    def test_over_many_models(self):
        counts = [0, 0]
        for model in models(155, 200):
            for _, claim in model[4]:
                told = idle(model, claim)
                busy = set()
                for number, (profile, _, _) in enumerate(obligations(model, claim)):
                    goal, rows = system_of(model, claim, number)
                    for unit, kind in enumerate(unit_transactions(model, profile)):
                        if any(line[unit] != 0 for line in (goal, *rows)):
                            busy.add(kind[0])
                self.assertEqual(told, tuple(kind[0] for kind in model[2] if kind[0] not in busy))
                for name, _, payer_entries, _, payee_entries in model[2]:
                    accounts = {account for account, _ in (*payer_entries, *payee_entries)}
                    if not accounts & set(mentioned(model, claim)):
                        self.assertIn(name, told)
                # Any of them may be left out: the verdict is of the same kind.
                verdict = decide(model, claim)[0]
                for size in range(len(told) + 1):
                    for gone in itertools.combinations(told, size):
                        names = [kind[0] for kind in model[2] if kind[0] not in gone]
                        self.assertEqual(decide(with_types(model, names), claim)[0], verdict)
                self.assertEqual(decide(with_types(model, busy), claim), decide(model, claim))
                counts[len(told) > 0] += 1
        self.assertGreater(min(counts), 50)


if __name__ == "__main__":
    unittest.main()
