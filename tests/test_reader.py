"""[42], [43], [44], [45] and the interface's heading `ledgerproof/reader.py`."""

import random
import unittest

from ledgerproof.errors import Mistakes, ProofError, ReadError
from ledgerproof.reader import read_claim, read_constraint, read_model, read_script, read_sector
from ledgerproof.tokens import split_text
from printed import MODEL, check_examples
from viable import expected, refused_at, sort_of

EXAMPLES = """
>>> from ledgerproof.reader import read_constraint, read_script, read_sector
>>> read_sector(model, "home or not (firm and home)")
('or', ('sector', 'home'), ('not', ('and', ('sector', 'firm'), ('sector', 'home'))))
>>> read_constraint(model, "each firm: -2 cash + debt = 0")
('each', ('sector', 'firm'), ((-2, 'cash'), (1, 'debt')), '=')
>>> read_claim(model, "if cash of (home or firm) >= 0 then cash of not home >= 0")
((('sum', ((1, 'cash', ('or', ('sector', 'home'), ('sector', 'firm'))),), '>='),), ('sum', ((1, 'cash', ('not', ('sector', 'home'))),), '>='))
>>> read_script(model, "drop wage; type wage: all [] to none [-2 debt];")
(('drop', 'wage'), ('type', 'wage', ('all',), (), ('none',), (('debt', -2),)))
>>> read_script(model, "")
()
>>> read_constraint(model, "cash of (firm")
raises ReadError(13)
>>> read_script(model, "assume wage: each bank: cash + gold >= 0; drop x;")
raises Mistakes(((7, 'duplicate'), (18, 'sector'), (31, 'account'), (47, 'name')))
"""

POINTS = """
>>> read_constraint(model, "cash of all >= 1")
raises ReadError(15)
>>> read_constraint(model, "cash of all and firm = 0")
raises ReadError(12)
>>> read_model("sectors a; accounts")
raises ReadError(19)
>>> read_constraint(model, "cash of (firm")
raises ReadError(13)
>>> read_model("sectors a, b, a, c, d; accounts x; drop x;")
raises Mistakes(((14, 'duplicate'), (17, 'many'), (20, 'many'), (40, 'name')))
"""

ALL = ("all",)
NONE = ("none",)
HOME = ("sector", "home")
FIRM = ("sector", "firm")

# How each function reads, and from which left side of the rules of the grammar.
READERS = {
    "sector": (lambda text: read_sector(MODEL, text), "sector0"),
    "constraint": (lambda text: read_constraint(MODEL, text), "constraint"),
    "claim": (lambda text: read_claim(MODEL, text), "claim"),
    "script": (lambda text: read_script(MODEL, text), "script"),
    "model": (lambda text: read_model(text), "model"),
}

# Together these go through every alternative of every rule.
TEXTS = {
    "sector": (
        "all", "none or home", "home and firm or not all", "not ( home or firm ) and none",
        "( ( ( ( ( ( firm ) ) ) ) ) )", "( ( ( ( ( not ( home and firm ) or all ) ) ) ) )",
    ),
    "constraint": (
        "cash of home = 0", "- 3 cash of not ( home or firm ) + debt of all - 2 cash of none >= 0",
        "debt of ( ( ( ( ( ( home ) ) ) ) ) ) - cash of not all = 0", "each home or not firm : cash >= 0",
        "each ( ( ( ( ( ( all ) ) ) ) ) ) : - 9999 cash + debt - 2 debt + 4 cash = 0",
    ),
    "claim": (
        "cash of home >= 0", "if cash of home >= 0 then each all : cash >= 0",
        "if each all : 2 cash >= 0 , debt of none = 0 , - cash of all >= 0 then 7 cash of all - debt of firm = 0",
    ),
    "script": (
        "drop wage ; claim wage : cash of all = 0 ; drop wage ;", "assume a : cash of all = 0 ; claim b : if each all : cash = 0 then debt of all = 0 ;",
        "type gift : home and firm [ ] to not ( all ) [ - 2 cash , debt ] ; type loan : all [ cash ] to none [ - debt ] ;",
    ),
    "model": (
        "sectors ; accounts cash ;", "sectors home ; accounts cash , debt ; claim a : cash of all = 0 ; drop a ;",
        "sectors home , firm , bank ; accounts a , b , c , d ; type a : home [ a ] to bank [ - 3 b ] ; claim c : a of all = 0 ;",
    ),
}

# A token of every sort, and several where [40] and [42] tell them apart.
CANDIDATES = (
    "sectors accounts type to if then each of not and or all none assume claim drop profiles distinguish conserved "
    "obligations evaluate decide bound by statuses core verdict refutes minimize types "
    "( ) + , - : ; = [ ] >= home cash x 0 1 2 9999 00 007 10000 > ! ? % abcdefghijklm A _ . {"
).split()


class ReadingTest(unittest.TestCase):
    def check_place(self, read, text, place):
        with self.assertRaises(ReadError) as caught:
            read(text)
        self.assertEqual(caught.exception.place, place, text)

    def check_mistakes(self, read, text, *diagnostics):
        with self.assertRaises(Mistakes) as caught:
            read(text)
        self.assertEqual(caught.exception.diagnostics, diagnostics, text)
        self.assertIs(type(caught.exception.diagnostics), tuple)

    def sector(self, text):
        return read_sector(MODEL, text)

    def constraint(self, text):
        return read_constraint(MODEL, text)

    def claim(self, text):
        return read_claim(MODEL, text)

    def script(self, text):
        return read_script(MODEL, text)


class PrintedTest(unittest.TestCase):
    def test_examples_of_the_interface(self):
        check_examples(self, EXAMPLES, {"model": MODEL, "read_claim": read_claim})

    def test_examples_of_the_points(self):
        names = {"model": MODEL, "read_constraint": read_constraint, "read_model": read_model}
        check_examples(self, POINTS, names)

    def test_the_model_at_the_beginning(self):
        text = "sectors home, firm; accounts cash, debt; type wage: firm [-cash] to home [cash];"
        self.assertEqual(read_model(text), MODEL)


class SectorTest(ReadingTest):
    def test_atoms(self):
        self.assertEqual(self.sector("all"), ALL)
        self.assertEqual(self.sector("none"), NONE)
        self.assertEqual(self.sector("firm"), FIRM)

    def test_not(self):
        self.assertEqual(self.sector("not home"), ("not", HOME))
        self.assertEqual(self.sector("not all"), ("not", ALL))
        self.assertEqual(self.sector("not none"), ("not", NONE))
        self.assertEqual(self.sector("not (not home)"), ("not", ("not", HOME)))
        self.check_place(self.sector, "not not home", 4)

    def test_not_binds_more_than_and(self):
        self.assertEqual(self.sector("not home and firm"), ("and", ("not", HOME), FIRM))
        self.assertEqual(self.sector("home and not firm"), ("and", HOME, ("not", FIRM)))
        self.assertEqual(self.sector("not (home and firm)"), ("not", ("and", HOME, FIRM)))

    def test_and_binds_more_than_or(self):
        self.assertEqual(self.sector("home and firm or all"), ("or", ("and", HOME, FIRM), ALL))
        self.assertEqual(self.sector("home or firm and all"), ("or", HOME, ("and", FIRM, ALL)))
        self.assertEqual(self.sector("(home or firm) and all"), ("and", ("or", HOME, FIRM), ALL))
        self.assertEqual(self.sector("home and (firm or all)"), ("and", HOME, ("or", FIRM, ALL)))

    def test_from_the_left(self):
        for word in ("and", "or"):
            left = (word, (word, (word, HOME, FIRM), ALL), NONE)
            self.assertEqual(self.sector(f"home {word} firm {word} all {word} none"), left)
            right = (word, HOME, (word, FIRM, (word, ALL, NONE)))
            self.assertEqual(self.sector(f"home {word} (firm {word} (all {word} none))"), right)
        mixed = ("or", ("or", ("and", ("and", HOME, FIRM), ALL), NONE), ("and", ALL, HOME))
        self.assertEqual(self.sector("home and firm and all or none or all and home"), mixed)

    def test_parentheses_that_need_not_stand(self):
        self.assertEqual(self.sector("(home)"), HOME)
        self.assertEqual(self.sector("((all))"), ALL)
        self.assertEqual(self.sector("not (home)"), ("not", HOME))
        self.assertEqual(self.sector("(not home)"), ("not", HOME))
        self.assertEqual(self.sector("(home and firm) or (all)"), ("or", ("and", HOME, FIRM), ALL))
        self.assertEqual(self.sector("((home or firm) or all)"), ("or", ("or", HOME, FIRM), ALL))

    def test_six_open_parentheses(self):
        self.assertEqual(self.sector("((((((home))))))"), HOME)
        self.assertEqual(self.sector("not ((((((home))))))"), ("not", HOME))
        nested = HOME
        for _ in range(6):
            nested = ("not", nested)
        self.assertEqual(self.sector("not (not (not (not (not (not home)))))"), nested)
        self.assertEqual(self.sector("not (" * 6 + "not home" + ")" * 6), ("not", nested))
        self.check_place(self.sector, "not (" * 7 + "not home" + ")" * 7, 34)

    def test_a_seventh_open_parenthesis(self):
        self.check_place(self.sector, "(((((((home)))))))", 6)
        self.check_place(self.sector, "((((((not (home)))))))", 10)
        self.check_place(self.sector, "((((((home or (firm)))))))", 14)

    def test_closed_parentheses_are_not_counted(self):
        text = "((((((home)))))) or ((((((firm)))))) and (((((((all)))))))"
        self.check_place(self.sector, text, 47)
        self.assertEqual(self.sector(text.replace("(((((((all)))))))", "((((((all))))))")), ("or", HOME, ("and", FIRM, ALL)))
        self.assertEqual(self.sector("(((((home) or (firm)) and (all))))"), ("and", ("or", HOME, FIRM), ALL))

    def test_sectors_that_are_called_like_parts_of_tuples(self):
        model = (("sector", "sum"), ("x",), (), (), ())
        self.assertEqual(read_sector(model, "sector or sum"), ("or", ("sector", "sector"), ("sector", "sum")))

    def test_only_sectors_and_accounts_of_the_model_matter(self):
        bare = (("home", "firm"), ("cash", "debt"), (), (), ())
        for text in TEXTS["sector"]:
            self.assertEqual(read_sector(bare, text), read_sector(MODEL, text))
        for text in TEXTS["claim"]:
            self.assertEqual(read_claim(bare, text), read_claim(MODEL, text))


class ConstraintTest(ReadingTest):
    def test_sums(self):
        self.assertEqual(self.constraint("cash of home >= 0"), ("sum", ((1, "cash", HOME),), ">="))
        self.assertEqual(self.constraint("debt of all = 0"), ("sum", ((1, "debt", ALL),), "="))

    def test_signs_and_multipliers(self):
        read = self.constraint("-cash of all + 2 debt of all - cash of all - 9999 cash of none + 1 debt of none = 0")
        terms = ((-1, "cash", ALL), (2, "debt", ALL), (-1, "cash", ALL), (-9999, "cash", NONE), (1, "debt", NONE))
        self.assertEqual(read, ("sum", terms, "="))
        self.assertEqual(self.constraint("-2 cash of all >= 0"), ("sum", ((-2, "cash", ALL),), ">="))
        self.assertEqual(self.constraint("1 cash of all >= 0"), ("sum", ((1, "cash", ALL),), ">="))
        self.assertEqual(self.constraint("-1 cash of all >= 0"), ("sum", ((-1, "cash", ALL),), ">="))
        self.assertEqual(self.constraint("9999 cash of all >= 0"), ("sum", ((9999, "cash", ALL),), ">="))

    def test_two_signs_are_not_accepted(self):
        self.check_place(self.constraint, "--cash of all >= 0", 1)
        self.check_place(self.constraint, "+cash of all >= 0", 0)
        self.check_place(self.constraint, "cash of all + -cash of all >= 0", 14)
        self.check_place(self.constraint, "cash of all - -cash of all >= 0", 14)

    def test_behind_of_stands_a_factor(self):
        self.assertEqual(self.constraint("cash of not home = 0"), ("sum", ((1, "cash", ("not", HOME)),), "="))
        both = ("sum", ((1, "cash", ("and", HOME, FIRM)),), "=")
        self.assertEqual(self.constraint("cash of (home and firm) = 0"), both)
        self.check_place(self.constraint, "cash of home and firm = 0", 13)
        self.check_place(self.constraint, "cash of not home or firm = 0", 17)
        self.check_place(self.constraint, "cash of not not home = 0", 12)

    def test_parentheses_behind_of(self):
        self.assertEqual(self.constraint("cash of ((((((home)))))) = 0"), ("sum", ((1, "cash", HOME),), "="))
        self.assertEqual(self.constraint("cash of not ((((((home)))))) = 0"), ("sum", ((1, "cash", ("not", HOME)),), "="))
        self.check_place(self.constraint, "cash of (((((((home))))))) = 0", 14)
        self.check_place(self.constraint, "cash of not (((((((home))))))) = 0", 18)
        self.check_place(self.constraint, "cash of ((((((home)))))) - cash of (((((((home))))))) = 0", 41)

    def test_eaches(self):
        self.assertEqual(self.constraint("each home: cash >= 0"), ("each", HOME, ((1, "cash"),), ">="))
        either = ("or", HOME, FIRM)
        terms = ((-1, "debt"), (-7, "cash"), (1, "cash"), (3, "debt"))
        self.assertEqual(self.constraint("each home or firm: -debt - 7 cash + cash + 3 debt = 0"), ("each", either, terms, "="))
        self.check_place(self.constraint, "each home: cash of home = 0", 16)
        self.check_place(self.constraint, "each: cash = 0", 4)

    def test_parentheses_behind_each(self):
        self.assertEqual(self.constraint("each ((((((home)))))): cash = 0"), ("each", HOME, ((1, "cash"),), "="))
        self.check_place(self.constraint, "each (((((((home))))))): cash = 0", 11)

    def test_the_same_account_and_sector_in_several_terms(self):
        twice = ("sum", ((1, "cash", HOME), (1, "cash", HOME)), "=")
        self.assertEqual(self.constraint("cash of home + cash of home = 0"), twice)

    def test_relations(self):
        self.check_place(self.constraint, "cash of home > 0", 13)
        self.check_place(self.constraint, "cash of home => 0", 14)
        self.check_place(self.constraint, "cash of home >= 1", 16)
        self.check_place(self.constraint, "cash of home = 2", 15)
        self.check_place(self.constraint, "cash of home = -0", 15)
        self.check_place(self.constraint, "cash of home 0", 13)

    def test_zero_is_no_multiplier(self):
        self.check_place(self.constraint, "0 cash of home = 0", 0)
        self.check_place(self.constraint, "-0 cash of home = 0", 1)
        self.check_place(self.constraint, "cash of home + 0 cash of home = 0", 15)
        self.check_place(self.constraint, "each home: 0 cash = 0", 11)
        self.check_place(self.script, "type a: all [0 cash] to all [];", 13)

    def test_six_terms(self):
        sums = self.constraint(" + ".join(["cash of home"] * 6) + " = 0")
        self.assertEqual(sums, ("sum", ((1, "cash", HOME),) * 6, "="))
        self.assertEqual(self.constraint("each all: " + " - ".join(["cash"] * 6) + " = 0")[2][1:], ((-1, "cash"),) * 5)

    def test_accounts_and_sectors_are_told_apart(self):
        model = (("x", "y"), ("y", "z"), (), (), ())
        self.assertEqual(read_constraint(model, "y of y = 0"), ("sum", ((1, "y", ("sector", "y")),), "="))
        with self.assertRaises(Mistakes) as caught:
            read_constraint(model, "x of z = 0")
        self.assertEqual(caught.exception.diagnostics, ((0, "account"), (5, "sector")))


class ClaimTest(ReadingTest):
    def test_without_premises(self):
        for text in TEXTS["constraint"]:
            self.assertEqual(self.claim(text), ((), self.constraint(text)))

    def test_with_premises(self):
        texts = TEXTS["constraint"]
        for count in (1, 2, 3, 4):
            text = "if " + ", ".join(texts[:count]) + " then " + texts[4]
            premises = tuple(self.constraint(text) for text in texts[:count])
            self.assertEqual(self.claim(text), (premises, self.constraint(texts[4])))

    def test_parts_that_are_missing(self):
        self.check_place(self.claim, "if then cash of all = 0", 3)
        self.check_place(self.claim, "if cash of all = 0, then cash of all = 0", 20)
        self.check_place(self.claim, "if cash of all = 0 cash of all = 0", 19)
        self.check_place(self.claim, "cash of all = 0 then cash of all = 0", 16)
        self.check_place(self.claim, "cash of all = 0, cash of all = 0", 15)


class StatementTest(ReadingTest):
    def test_types(self):
        read = self.script("type gift: home [-cash, 2 debt] to not firm [];")
        self.assertEqual(read, (("type", "gift", HOME, (("cash", -1), ("debt", 2)), ("not", FIRM), ()),))
        read = self.script("type gift: home or firm [] to all and none [9999 cash];")
        self.assertEqual(read, (("type", "gift", ("or", HOME, FIRM), (), ("and", ALL, NONE), (("cash", 9999),)),))
        read = self.script("type gift: all [1 cash] to all [-1 cash, -9999 debt];")
        self.assertEqual(read, (("type", "gift", ALL, (("cash", 1),), ALL, (("cash", -1), ("debt", -9999))),))

    def test_parentheses_in_types(self):
        read = self.script("type gift: ((((((home)))))) [] to ((((((firm)))))) [];")
        self.assertEqual(read, (("type", "gift", HOME, (), FIRM, ()),))
        self.check_place(self.script, "type gift: (((((((home))))))) [] to all [];", 17)
        self.check_place(self.script, "type gift: all [] to (((((((home))))))) [];", 27)

    def test_entries(self):
        self.check_place(self.script, "type a: all [cash,] to all [];", 18)
        self.check_place(self.script, "type a: all [cash debt] to all [];", 18)
        self.check_place(self.script, "type a: all [+cash] to all [];", 13)
        self.check_place(self.script, "type a: all [--cash] to all [];", 14)
        self.check_place(self.script, "type a: all to all [];", 12)

    def test_assumptions_claims_and_drops(self):
        read = self.script("assume p: each home: cash = 0; claim q: if cash of all = 0 then debt of all = 0; drop p;")
        each = ("each", HOME, ((1, "cash"),), "=")
        premise, conclusion = ("sum", ((1, "cash", ALL),), "="), ("sum", ((1, "debt", ALL),), "=")
        self.assertEqual(read, (("assume", "p", each), ("claim", "q", ((premise,), conclusion)), ("drop", "p")))
        self.check_place(self.script, "assume p: if cash of all = 0 then cash of all = 0;", 10)

    def test_statements_end_with_a_semicolon(self):
        self.check_place(self.script, "drop wage", 9)
        self.check_place(self.script, "drop wage; drop wage", 20)
        self.check_place(self.script, "drop wage;;", 10)
        self.check_place(self.script, ";", 0)
        self.check_place(self.script, "assume p: cash of all = 0 drop wage;", 26)

    def test_without_statements(self):
        self.assertEqual(self.script(" \n "), ())
        self.assertEqual(read_model("sectors a; accounts x;"), (("a",), ("x",), (), (), ()))

    def test_models(self):
        self.assertEqual(read_model("sectors; accounts x;"), ((), ("x",), (), (), ()))
        text = "sectors a, b, c; accounts w, x, y, z; claim c: w of all = 0; type t: a [] to b []; assume p: z of c = 0;"
        text += "claim d: each c: x >= 0; type u: none [] to all []; assume q: y of a >= 0;"
        model = read_model(text)
        self.assertEqual(model[:2], (("a", "b", "c"), ("w", "x", "y", "z")))
        self.assertEqual([kind[0] for kind in model[2]], ["t", "u"])
        self.assertEqual(model[3], (
            ("p", ("sum", ((1, "z", ("sector", "c")),), "=")), ("q", ("sum", ((1, "y", ("sector", "a")),), ">=")),
        ))
        self.assertEqual(model[4], (
            ("c", ((), ("sum", ((1, "w", ALL),), "="))), ("d", ((), ("each", ("sector", "c"), ((1, "x"),), ">="))),
        ))

    def test_a_model_with_drops(self):
        text = "sectors; accounts x; claim a: x of all = 0; type b: all [] to all []; drop a; claim c: x of all >= 0;"
        model = read_model(text)
        self.assertEqual(model[2], (("b", ALL, (), ALL, ()),))
        self.assertEqual(model[4], (("c", ((), ("sum", ((1, "x", ALL),), ">="))),))

    def test_places_of_models(self):
        for text, place in (
            ("", 0), ("sectors", 7), ("sectors a", 9), ("sectors a,;", 10), ("sectors a b;", 10), ("sectors ,a;", 8),
            ("sectors;", 8), ("sectors; accounts;", 17), ("sectors; accounts x", 19), ("accounts x;", 0),
            ("sectors a; accounts x,;", 22), ("sectors; accounts x; sectors;", 21), ("sectors; accounts x; x", 21),
        ):
            self.check_place(read_model, text, place)

    def test_names_that_occur_in_several_ways(self):
        model = read_model("sectors a; accounts a; type a: a [a] to a [-a];")
        A = ("sector", "a")
        self.assertEqual(model, (("a",), ("a",), (("a", A, (("a", 1),), A, (("a", -1),)),), (), ()))

    def test_models_with_the_same_names_in_another_order(self):
        text = "debt of (home and not firm) - 2 cash of all >= 0"
        other = (("firm", "home"), ("debt", "cash"), (), (), ())
        self.assertEqual(read_constraint(other, text), self.constraint(text))
        script = "type gift: home [debt, -cash] to firm [cash]; claim c: each home: debt - cash >= 0;"
        self.assertEqual(read_script(other, script), self.script(script))

    def test_several_models_one_after_another(self):
        text = "sectors a; accounts x; type t: a [] to a []; claim c: x of a = 0;"
        first = read_model(text)
        self.check_mistakes(read_model, "sectors b; accounts y; type t: a [] to b []; drop c;", (31, "sector"), (50, "name"))
        self.assertEqual(read_model(text), first)
        self.assertEqual(read_model("sectors b; accounts y;"), (("b",), ("y",), (), (), ()))


class BlanksTest(ReadingTest):
    def check_everywhere(self, read, text):
        texts = [token[0] for token in split_text(text)]
        pieces = [text[begin:end].strip() for begin, end in zip(texts, texts[1:])]
        wanted = read(text)
        for blank in (" ", "\n", "  \n \n\n", "\n "):
            self.assertEqual(read(blank + blank.join(pieces) + blank), wanted)

    def test_any_spaces_and_line_feeds(self):
        for name, (read, _) in READERS.items():
            for text in TEXTS[name]:
                with self.subTest(text):
                    self.check_everywhere(read, text)

    def test_none_where_none_is_needed(self):
        self.assertEqual(self.constraint("-2cash of(home)+3debt of all=0"), self.constraint("-2 cash of (home) + 3 debt of all = 0"))
        self.assertEqual(self.script("assume a:2cash of all=0;drop a;"), self.script("assume a: 2 cash of all = 0; drop a;"))
        self.assertEqual(read_model("sectors;accounts x;"), ((), ("x",), (), (), ()))


class PlacesTest(unittest.TestCase):
    """[43], compared with rules that are written down a second time."""

    def outcome(self, read, text):
        try:
            read(text)
        except ReadError as error:
            return error.place
        except Mistakes:
            return None
        return None

    def test_the_texts_are_accepted(self):
        for name, (read, start) in READERS.items():
            for text in TEXTS[name]:
                with self.subTest(text):
                    self.assertIsNone(refused_at(start, text))
                    self.assertIsNone(self.outcome(read, text))

    def test_every_token_that_cannot_stand_somewhere(self):
        refused = 0
        for name, (read, start) in READERS.items():
            for text in TEXTS[name]:
                tokens = split_text(text)
                told = expected(start, tokens)
                for at, (place, _, _) in enumerate(tokens):
                    # The end stands where the next token stood, behind one space.
                    front = text[:place]
                    if "end" not in told[at]:
                        self.assertEqual(self.outcome(read, front), place, front)
                    for candidate in CANDIDATES:
                        token = split_text(candidate)[0]
                        if sort_of(token) in told[at]:
                            continue
                        refused += 1
                        for rest in ("", " " + text[place:], " !"):
                            broken = front + (" " if at + 1 == len(tokens) else "") + candidate + rest
                            wanted = len(broken) - len(candidate) - len(rest)
                            self.assertEqual(self.outcome(read, broken), wanted, broken)
        self.assertGreater(refused, 10000)

    def test_tokens_that_can_stand_there_are_gone_over(self):
        for name, (read, start) in READERS.items():
            for text in TEXTS[name]:
                tokens = split_text(text)
                told = expected(start, tokens)
                for at, (place, _, _) in enumerate(tokens):
                    for candidate in CANDIDATES:
                        if sort_of(split_text(candidate)[0]) in told[at]:
                            broken = text[:place] + " " + candidate + " !"
                            self.assertEqual(self.outcome(read, broken), len(broken) - 1, broken)

    def test_texts_with_changes_at_random_places(self):
        source = random.Random(43)
        for name, (read, start) in READERS.items():
            for text in TEXTS[name]:
                words = text.split()
                for _ in range(40):
                    changed = list(words)
                    for _ in range(source.randint(1, 3)):
                        at = source.randrange(len(changed) + 1)
                        changed[at:at + source.randint(0, 2)] = source.choices(words, k=source.randint(0, 2))
                    broken = " ".join(changed)
                    self.assertEqual(self.outcome(read, broken), refused_at(start, broken), broken)

    def test_an_invalid_token_has_the_place_of_its_first_character(self):
        for text, place in (("home or  A", 9), ("home or abcdefghijklmn", 8), ("home or 0012", 8), ("home ! 1", 5), ("%", 0)):
            with self.assertRaises(ReadError) as caught:
                read_sector(MODEL, text)
            self.assertEqual(caught.exception.place, place)

    def test_an_invalid_token_behind_a_whole_text(self):
        for name, (read, _) in READERS.items():
            for text in TEXTS[name]:
                for bad in ("!", "00", "A", ">", "zzzzzzzzzzzzz"):
                    self.assertEqual(self.outcome(read, text + "  " + bad), len(text) + 2)

    def test_refused_before_diagnosed(self):
        for name, text, place in (
            ("sector", "bank or", 7), ("sector", "bank or all all", 12), ("constraint", "gold of bank = 1", 15),
            ("claim", "if gold of all = 0 then", 23), ("script", "drop x; drop y", 14), ("script", "drop x; drop !", 13),
            ("model", "sectors a, a; accounts", 22), ("model", "sectors a, b, c, d; accounts x; drop x; x", 40),
            ("script", "assume wage: each bank: gold = 0", 32),
        ):
            self.assertEqual(self.outcome(READERS[name][0], text), place)

    def test_errors_are_of_the_program(self):
        for error in (ReadError(0), Mistakes(())):
            self.assertIsInstance(error, ProofError)


class DiagnosticsTest(ReadingTest):
    def test_sector_expressions(self):
        self.check_mistakes(self.sector, "bank", (0, "sector"))
        self.check_mistakes(self.sector, "not bank", (4, "sector"))
        self.check_mistakes(self.sector, "home and (bank or x) or y", (10, "sector"), (18, "sector"), (24, "sector"))
        self.check_mistakes(self.sector, "cash", (0, "sector"))

    def test_twelve_leaves(self):
        for leaf in ("home", "all", "none"):
            twelve = " or ".join([leaf] * 12)
            self.assertEqual(repr(self.sector(twelve)).count("'or'"), 11)
            self.check_mistakes(self.sector, twelve + " or all", (len(twelve) + 4, "many"))
            self.check_mistakes(self.sector, twelve + " or none", (len(twelve) + 4, "many"))
            self.check_mistakes(self.sector, twelve + " and home", (len(twelve) + 5, "many"))

    def test_beyond_the_twelfth_many_stands_for_sector(self):
        text = " or ".join(["all"] * 11 + ["bank", "bank", "x", "home"])
        self.check_mistakes(self.sector, text, (77, "sector"), (85, "many"), (93, "many"), (98, "many"))

    def test_leaves_with_diagnostics_are_counted(self):
        text = " or ".join(["x"] * 13)
        self.check_mistakes(self.sector, text, *[(5 * k, "sector") for k in range(12)], (60, "many"))

    def test_leaves_within_parentheses_are_counted(self):
        text = "(all or (all and all)) and not (all or all) or all or all or all or (((all))) or all or all or all"
        self.assertTrue(self.sector(text))
        self.check_mistakes(self.sector, text + " and (not firm)", (len(text) + 10, "many"))

    def test_every_sector_expression_counts_its_own_leaves(self):
        twelve = "(" + " or ".join(["all"] * 12) + ")"
        self.assertTrue(self.constraint(f"cash of {twelve} - cash of not {twelve} = 0"))
        self.assertTrue(self.claim(f"if each {twelve}: cash = 0, each {twelve}: cash = 0 then cash of {twelve} = 0"))
        self.assertTrue(self.script(f"type a: {twelve} [] to {twelve} [];"))
        text = f"cash of {twelve} + cash of ({twelve} or all) + cash of ({twelve} and none) = 0"
        places = (text.index(") or all)") + 5, text.index("and none") + 4)
        self.check_mistakes(self.constraint, text, (places[0], "many"), (places[1], "many"))

    def test_a_long_sector_expression(self):
        text = " or ".join(["a"] * 400)
        expected = [(5 * k, "sector" if k < 12 else "many") for k in range(400)]
        self.check_mistakes(self.sector, text, *expected)
        self.check_mistakes(self.script, f"assume p: each {text}: cash = 0; drop p;",
                            *[(15 + place, reason) for place, reason in expected], (len(text) + 32, "name"))

    def test_declared_sectors(self):
        self.check_mistakes(read_model, "sectors a, a; accounts x;", (11, "duplicate"))
        self.check_mistakes(read_model, "sectors a, b, a; accounts x;", (14, "duplicate"))
        self.check_mistakes(read_model, "sectors a, a, a; accounts x;", (11, "duplicate"), (14, "duplicate"))
        self.check_mistakes(read_model, "sectors a, b, c, d; accounts x;", (17, "many"))
        self.check_mistakes(read_model, "sectors a, b, c, a, e; accounts x;", (17, "many"), (20, "many"))

    def test_declared_accounts(self):
        self.check_mistakes(read_model, "sectors; accounts x, x;", (21, "duplicate"))
        self.check_mistakes(read_model, "sectors; accounts v, w, x, w;", (27, "duplicate"))
        self.check_mistakes(read_model, "sectors; accounts v, w, x, y, z;", (30, "many"))
        self.check_mistakes(read_model, "sectors; accounts v, v, x, y, v, z;", (21, "duplicate"), (30, "many"), (33, "many"))

    def test_sectors_and_accounts_may_have_the_same_names(self):
        self.assertEqual(read_model("sectors x; accounts x;"), (("x",), ("x",), (), (), ()))

    def test_what_was_declared_with_a_diagnostic_counts(self):
        text = "sectors a, a, c, d, e; accounts v, v, x, y, z; assume p: each a and c and d or e: v + x + y + z = 0;"
        self.check_mistakes(
            read_model, text, (11, "duplicate"), (17, "many"), (20, "many"), (35, "duplicate"), (44, "many"),
        )
        text += " claim q: each f: u = 0;"
        place = text.index("each f")
        self.check_mistakes(
            read_model, text, (11, "duplicate"), (17, "many"), (20, "many"), (35, "duplicate"), (44, "many"),
            (place + 5, "sector"), (place + 8, "account"),
        )

    def test_entries(self):
        def read(entries):
            return self.script(f"type a: all {entries} to all [];")

        self.check_mistakes(lambda text: read(text), "[gold]", (13, "account"))
        self.check_mistakes(lambda text: read(text), "[-2 gold]", (16, "account"))
        self.check_mistakes(lambda text: read(text), "[cash, cash]", (19, "duplicate"))
        self.check_mistakes(lambda text: read(text), "[cash, debt, -3 cash]", (28, "duplicate"))
        self.check_mistakes(lambda text: read(text), "[cash, 2 cash, cash]", (21, "duplicate"), (27, "duplicate"))
        self.check_mistakes(lambda text: read(text), "[gold, gold]", (13, "account"), (19, "account"))
        self.check_mistakes(lambda text: read(text), "[home]", (13, "account"))

    def test_each_brackets_count_alone(self):
        self.assertTrue(self.script("type a: all [cash, debt] to all [debt, cash]; type b: all [cash] to all [cash];"))
        text = "type a: all [cash, cash] to all [debt, debt];"
        self.check_mistakes(self.script, text, (19, "duplicate"), (39, "duplicate"))

    def test_more_than_four_entries_have_no_diagnostic_of_their_own(self):
        self.check_mistakes(self.script, "type a: all [cash, debt, a, b, c] to all [];",
                            (25, "account"), (28, "account"), (31, "account"))

    def test_terms_of_sums(self):
        self.check_mistakes(self.constraint, "gold of all = 0", (0, "account"))
        self.check_mistakes(self.constraint, "-3 gold of all = 0", (3, "account"))
        self.check_mistakes(self.constraint, "gold of bank = 0", (0, "account"), (8, "sector"))
        self.check_mistakes(self.constraint, "cash of bank - 2 gold of not x = 0", (8, "sector"), (17, "account"), (29, "sector"))
        self.check_mistakes(self.constraint, "home of all = 0", (0, "account"))

    def test_terms_of_eaches(self):
        self.check_mistakes(self.constraint, "each bank: cash = 0", (5, "sector"))
        self.check_mistakes(self.constraint, "each bank: gold + x = 0", (5, "sector"), (11, "account"), (18, "account"))
        self.check_mistakes(self.constraint, "each all: -2 gold = 0", (13, "account"))

    def test_terms_beyond_the_sixth(self):
        six = " + ".join(["cash of all"] * 6)
        self.check_mistakes(self.constraint, six + " - 2 cash of all = 0", (len(six) + 5, "many"))
        self.check_mistakes(self.constraint, six + " + gold of bank = 0", (len(six) + 3, "many"), (len(six) + 11, "sector"))
        text = "each all: " + " + ".join(["cash"] * 6)
        self.check_mistakes(self.constraint, text + " + gold - cash = 0", (len(text) + 3, "many"), (len(text) + 10, "many"))

    def test_terms_with_diagnostics_are_counted(self):
        text = " + ".join(["x of all"] * 7) + " = 0"
        self.check_mistakes(self.constraint, text, *[(11 * k, "account") for k in range(6)], (66, "many"))

    def test_premises_beyond_the_fourth(self):
        four = "if " + ", ".join(["cash of all = 0"] * 4)
        self.assertEqual(len(self.claim(four + " then cash of all = 0")[0]), 4)
        for fifth in ("cash of all = 0", "-cash of all = 0", "2 cash of all = 0", "each all: cash = 0"):
            self.check_mistakes(self.claim, f"{four}, {fifth} then cash of all = 0", (len(four) + 2, "many"))
        text = f"{four}, gold of bank = 0, each bank: gold = 0 then x of y = 0"
        place = len(four) + 2
        self.check_mistakes(
            self.claim, text, (place, "many"), (place, "account"), (place + 8, "sector"), (place + 18, "many"),
            (place + 23, "sector"), (place + 29, "account"), (place + 43, "account"), (place + 48, "sector"),
        )

    def test_premises_with_diagnostics_are_counted(self):
        text = "if " + ", ".join(["x of all = 0"] * 5) + " then x of all = 0"
        places = [3 + 14 * k for k in range(5)]
        told = [(place, "account") for place in places[:4]] + [(59, "many"), (59, "account"), (77, "account")]
        self.check_mistakes(self.claim, text, *told)

    def test_premises_before_the_conclusion(self):
        text = "if x of all = 0, each y: cash = 0 then z of all = 0"
        self.check_mistakes(self.claim, text, (3, "account"), (22, "sector"), (39, "account"))

    def test_names_of_statements(self):
        for statement in ("type {}: all [] to all [];", "assume {}: cash of all = 0;", "claim {}: cash of all = 0;"):
            place = statement.index("{")
            self.check_mistakes(self.script, statement.format("wage"), (place, "duplicate"))
            self.assertTrue(self.script(statement.format("home")))
            self.assertTrue(self.script(statement.format("cash")))
        self.check_mistakes(self.script, "drop home;", (5, "name"))
        self.check_mistakes(self.script, "drop cash;", (5, "name"))
        self.assertEqual(self.script("drop wage;"), (("drop", "wage"),))

    def test_duplicates_among_types_assumptions_and_claims(self):
        forms = ("type n: all [] to all [];", "assume n: cash of all = 0;", "claim n: cash of all = 0;")
        for first in forms:
            for second in forms:
                place = len(first) + second.index("n:")
                self.check_mistakes(self.script, first + second, (place, "duplicate"))
                self.check_mistakes(read_model, "sectors; accounts cash;" + first + second, (23 + place, "duplicate"))

    def test_everything_behind_the_name_is_examined(self):
        text = "type wage: bank [gold] to x [y, cash, cash]; assume wage: gold of bank = 0; claim wage: each bank: gold = 0;"
        self.check_mistakes(
            self.script, text, (5, "duplicate"), (11, "sector"), (17, "account"), (26, "sector"), (29, "account"),
            (38, "duplicate"), (52, "duplicate"), (58, "account"), (66, "sector"), (82, "duplicate"), (93, "sector"),
            (99, "account"),
        )

    def test_sectors_before_accounts_before_statements(self):
        text = "sectors a, a; accounts x, x; claim c: y of b = 0; drop d;"
        self.check_mistakes(
            read_model, text, (11, "duplicate"), (26, "duplicate"), (38, "account"), (43, "sector"), (55, "name"),
        )


class ScriptDiagnosticsTest(ReadingTest):
    def test_names_of_earlier_statements_are_taken(self):
        self.check_mistakes(self.script, "claim a: cash of all = 0; claim a: cash of all = 0;", (32, "duplicate"))
        self.assertEqual(len(self.script("claim a: cash of all = 0; drop a;")), 2)

    def test_a_dropped_name_is_free_again(self):
        read = self.script("drop wage; assume wage: cash of all = 0; drop wage; claim wage: cash of all = 0;")
        self.assertEqual([statement[:2] for statement in read], [("drop", "wage"), ("assume", "wage"), ("drop", "wage"), ("claim", "wage")])
        self.check_mistakes(self.script, "drop wage; drop wage;", (16, "name"))

    def test_a_name_in_a_statement_with_a_diagnostic_is_not_taken(self):
        self.check_mistakes(self.script, "claim a: gold of all = 0; claim a: cash of all = 0;", (9, "account"))
        self.check_mistakes(self.script, "claim a: gold of all = 0; drop a;", (9, "account"), (31, "name"))
        text = "claim a: gold of all = 0; claim a: cash of all = 0; claim a: cash of all = 0; drop a; drop a;"
        self.check_mistakes(self.script, text, (9, "account"), (58, "duplicate"), (91, "name"))

    def test_a_drop_with_a_diagnostic_drops_nothing(self):
        self.check_mistakes(self.script, "drop x; drop wage; drop wage;", (5, "name"), (24, "name"))

    def check_bound(self, front, most, form, read):
        def fill(names, text=""):
            return text + "".join(form.format(name) for name in names)

        names = "a b c d e f g h i j".split()
        full = fill(names[:most], front)
        self.assertTrue(read(full) is not None)
        beyond = full + form.format("z")
        place = len(full) + form.index("{")
        self.check_mistakes(read, beyond, (place, "many"))
        # "many" stands for "duplicate", and beyond the bound everything has the diagnostic.
        self.check_mistakes(read, full + form.format("a") + form.format("y"), (place, "many"), (place + len(form) - 1, "many"))
        # A drop makes room for one more.
        room = full + "drop b;"
        self.assertTrue(read(room + form.format("z")) is not None)
        place = len(room) + len(form) - 1 + form.index("{")
        self.check_mistakes(read, room + form.format("b") + form.format("y"), (place, "many"))
        # A statement with a diagnostic takes no room.
        broken = fill(names[:most - 1], front) + form.replace("all", "x").format("k") + form.format("z")
        with self.assertRaises(Mistakes) as caught:
            read(broken)
        self.assertEqual({reason for _, reason in caught.exception.diagnostics}, {"sector"})

    def test_bounds_of_scripts_and_models(self):
        forms = (
            (5, "type {}: all [] to all [];"), (3, "assume {}: cash of all = 0;"), (8, "claim {}: cash of all = 0;"),
        )
        bare = (("home",), ("cash",), (), (), ())
        for most, form in forms:
            with self.subTest(form):
                self.check_bound("", most, form, lambda text: read_script(bare, text))
                self.check_bound("sectors home; accounts cash;", most, form, read_model)

    def test_bounds_count_what_the_model_has(self):
        four = "".join(f"type {name}: all [] to all [];" for name in "abcd")
        self.assertEqual(len(self.script(four)), 4)
        self.check_mistakes(self.script, four + "type e: all [] to all [];", (len(four) + 5, "many"))
        self.assertEqual(len(self.script(four + "drop wage; type e: all [] to all [];")), 6)

    def test_each_sort_has_its_own_bound(self):
        text = "sectors; accounts x;" + "".join(f"assume a{name}: x of all = 0;" for name in "abc")
        text += "".join(f"claim c{name}: x of all = 0;" for name in "abcdefgh")
        text += "".join(f"type t{name}: all [] to all [];" for name in "abcde")
        model = read_model(text)
        self.assertEqual([len(part) for part in model[2:]], [5, 3, 8])
        with self.assertRaises(Mistakes) as caught:
            read_script(model, "type u: all [] to all []; assume v: x of all = 0; claim w: x of all = 0;")
        self.assertEqual(caught.exception.diagnostics, ((5, "many"), (33, "many"), (56, "many")))

    def test_the_model_that_was_passed_is_as_it_was(self):
        kept = eval(repr(MODEL))
        self.script("drop wage; claim c: cash of all = 0;")
        with self.assertRaises(Mistakes):
            self.script("drop wage; claim c: gold of all = 0;")
        self.assertEqual(MODEL, kept)

    def test_statements_are_all_told_also_those_that_were_undone(self):
        self.assertEqual(self.script("drop wage; type wage: all [] to all []; drop wage;")[0], ("drop", "wage"))
        self.assertEqual(len(self.script("drop wage; type wage: all [] to all []; drop wage;")), 3)

    def test_a_text_of_two_thousand_characters(self):
        text = "claim c: cash of all = 0; drop c; " * 58
        self.assertEqual(len(text), 1972)
        self.assertEqual(len(self.script(text)), 116)


if __name__ == "__main__":
    unittest.main()
