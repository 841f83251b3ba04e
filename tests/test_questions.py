"""[180] to [184] with [42] to [44], and the interface's heading `ledgerproof/questions.py`."""

import random
import unittest

import things
from ledgerproof.errors import BadValue, Mistakes, ReadError
from ledgerproof.printer import show_claim, show_constraint, show_sector
from ledgerproof.questions import read_question, show_question
from ledgerproof.reader import read_claim, read_constraint, read_model, read_sector
from ledgerproof.tokens import RESERVED, filled, split_text
from printed import MODEL, check_examples
from viable import expected, refused_among, refused_at, sort_of

EXAMPLES = """
>>> from ledgerproof.questions import read_question, show_question
>>> read_question(model, ("decide each ", ": ", " ", " >= 0"), ("firm", 7, "cash"))
('decide', ((), ('each', ('sector', 'firm'), ((7, 'cash'),), '>=')))
>>> read_question(model, ("profiles ", ""), ("bank",))
raises Mistakes(((9, 'sector'),))
>>> read_question(model, ("core", ""), ("c",))
raises Mistakes(((4, 'claim'),))
>>> read_question(model, ("profiles ", " ", ""), ("home", "firm"))
raises ReadError(14)
>>> show_question(("bound", balanced, read_constraint(model, "cash of firm >= 0")))
'bound if debt of all = 0 then 2 cash of home - cash of all >= 0 by cash of firm >= 0'
"""

BALANCED = read_claim(MODEL, "if debt of all = 0 then 2 cash of home - cash of all >= 0")
ASKED = read_model("""
sectors home, firm; accounts cash, debt; type wage: firm [-cash] to home [cash];
assume p: cash of all = 0; claim c: cash of home >= 0; claim fair: each all: cash = 0;
""")

# Every form, with tokens that are all divided by single blanks.
TEXTS = (
    "profiles home or not ( firm and all )", "profiles ( ( ( ( ( ( home ) ) ) ) ) )", "distinguish home and firm , not firm or none",
    "conserved", "obligations if cash of home = 0 , each all : 2 cash >= 0 then - debt of ( home or firm ) = 0",
    "obligations each firm : - cash + 3 debt = 0", "decide cash of all >= 0", "decide if cash of all = 0 then each home : cash >= 0",
    "bound if debt of all = 0 then 2 cash of home - cash of all >= 0 by 3 cash of not firm >= 0", "bound cash of all >= 0 by each all : cash = 0",
    "statuses", "core c", "verdict fair", "evaluate cash of all - 2 debt of none = 0", "evaluate each home or firm : cash >= 0",
    "refutes cash of all = 0", "refutes if each all : cash = 0 then each all : cash = 0", "minimize if cash of all = 0 then cash of home >= 0", "types",
)

CANDIDATES = (
    "sectors accounts type to if then each of not and or all none assume claim drop profiles distinguish conserved "
    "obligations evaluate decide bound by statuses core verdict refutes minimize types "
    "( ) + , - : ; = [ ] >= home cash x 0 1 2 9999 00 007 10000 > ! ? abcdefghijklm A _ . {"
).split()


def ask(*texts, values=()):
    return read_question(ASKED, texts, values)


def outcome(texts, values=()):
    """The place of the token that is refused, or None."""
    try:
        read_question(ASKED, texts, values)
    except ReadError as error:
        return error.place
    except Mistakes:
        return None
    return None


def question(source, model):
    """A question about the model."""
    word = source.choice((
        "profiles", "distinguish", "conserved", "obligations", "decide", "bound", "statuses", "core", "verdict", "evaluate",
        "refutes", "minimize", "types",
    ))
    if word == "profiles":
        return (word, things.sector(source, model[0]))
    if word == "distinguish":
        return (word, things.sector(source, model[0]), things.sector(source, model[0]))
    if word == "bound":
        return (word, things.claim(source, model), things.constraint(source, model))
    if word in ("core", "verdict"):
        return (word, source.choice(model[4])[0]) if model[4] else ("types",)
    if word == "evaluate":
        return (word, things.constraint(source, model))
    if word in ("obligations", "decide", "refutes", "minimize"):
        return (word, things.claim(source, model))
    return (word,)


class QuestionTest(unittest.TestCase):
    def check_error(self, error, *texts, values=(), model=ASKED):
        with self.assertRaises(type(error)) as caught:
            read_question(model, texts, values)
        self.assertIs(type(caught.exception), type(error))
        self.assertEqual(vars(caught.exception), vars(error))


class PrintedTest(unittest.TestCase):
    def test_examples_of_the_interface(self):
        names = {"model": MODEL, "balanced": BALANCED, "read_constraint": read_constraint}
        check_examples(self, EXAMPLES, names)


class FormsTest(QuestionTest):
    def check(self, text, told):
        self.assertEqual(ask(text), told)
        shown = show_question(told)
        self.assertEqual(ask(shown), told)
        self.assertEqual(shown, text)

    def test_every_form(self):
        home, firm = ("sector", "home"), ("sector", "firm")
        claim, constraint = read_claim(ASKED, "if cash of all = 0 then cash of home >= 0"), read_constraint(ASKED, "2 debt of firm >= 0")
        self.check("profiles home or firm", ("profiles", ("or", home, firm)))
        self.check("distinguish home, not firm", ("distinguish", home, ("not", firm)))
        self.check("conserved", ("conserved",))
        self.check("obligations if cash of all = 0 then cash of home >= 0", ("obligations", claim))
        self.check("decide if cash of all = 0 then cash of home >= 0", ("decide", claim))
        self.check("bound if cash of all = 0 then cash of home >= 0 by 2 debt of firm >= 0", ("bound", claim, constraint))
        self.check("statuses", ("statuses",))
        self.check("core c", ("core", "c"))
        self.check("verdict fair", ("verdict", "fair"))
        self.check("evaluate 2 debt of firm >= 0", ("evaluate", constraint))
        self.check("refutes if cash of all = 0 then cash of home >= 0", ("refutes", claim))
        self.check("minimize if cash of all = 0 then cash of home >= 0", ("minimize", claim))
        self.check("types", ("types",))

    def test_constraints_alone_are_claims(self):
        each = read_constraint(ASKED, "each home: cash - debt = 0")
        self.check("decide each home: cash - debt = 0", ("decide", ((), each)))
        self.check("evaluate each home: cash - debt = 0", ("evaluate", each))
        self.check("bound each home: cash - debt = 0 by each home: cash - debt = 0", ("bound", ((), each), each))

    def test_constraints_and_sectors_only(self):
        self.check_error(ReadError(9), "evaluate if cash of all = 0 then cash of all = 0")
        self.check_error(ReadError(13), "evaluate home")
        self.check_error(ReadError(26), "bound cash of all >= 0 by if x")
        self.check_error(ReadError(26), "bound cash of all >= 0 by if cash of all = 0 then cash of all = 0")
        self.check_error(ReadError(14), "profiles home of all")

    def test_parentheses_in_printed_forms(self):
        self.check("profiles not (home or firm)", ("profiles", ("not", ("or", ("sector", "home"), ("sector", "firm")))))
        self.check("distinguish home or firm, (home or firm) and all",
                   ("distinguish", *[read_sector(ASKED, text) for text in ("home or firm", "(home or firm) and all")]))

    def test_blanks_anywhere(self):
        for text in TEXTS:
            for blank in ("  ", "\n", "\n \n"):
                self.assertEqual(ask(blank + blank.join(text.split()) + blank), ask(text))

    def test_printed_and_read_back(self):
        source = random.Random(184)
        seen = {}
        for _ in range(400):
            model = things.model(source)
            told = question(source, model)
            seen[told[0]] = True
            shown = show_question(told)
            self.assertEqual(read_question(model, (shown,)), told)
            self.assertEqual(read_question(model, (shown,), ()), told)
        self.assertEqual(len(seen), 13)

    def test_printed_forms_by_their_parts(self):
        source = random.Random(1841)
        for _ in range(100):
            model = things.model(source)
            claim, constraint, sector = things.claim(source, model), things.constraint(source, model), things.sector(source, model[0])
            for word in ("obligations", "decide", "refutes", "minimize"):
                self.assertEqual(show_question((word, claim)), word + " " + show_claim(claim))
            self.assertEqual(show_question(("evaluate", constraint)), "evaluate " + show_constraint(constraint))
            self.assertEqual(show_question(("bound", claim, constraint)), "bound " + show_claim(claim) + " by " + show_constraint(constraint))
            self.assertEqual(show_question(("profiles", sector)), "profiles " + show_sector(sector))
            self.assertEqual(show_question(("distinguish", sector, ("all",))), "distinguish " + show_sector(sector) + ", all")

    def test_names_like_the_words_of_tuples(self):
        model = read_model("sectors sector, sum; accounts x; claim sum: x of sum = 0; claim sector: x of sector = 0;")
        for text in ("core sum", "verdict sector", "profiles sector or sum", "distinguish sector, sum", "decide x of sum >= 0"):
            self.assertEqual(show_question(read_question(model, (text,))), text)


class PlacesTest(QuestionTest):
    """[43] for questions, compared with rules that are written down a second time."""

    def test_the_texts_are_accepted(self):
        for text in TEXTS:
            self.assertIsNone(refused_at("question", text), text)
            ask(text)

    def test_every_token_that_cannot_stand_somewhere(self):
        refused = 0
        for text in TEXTS:
            tokens = split_text(text)
            told = expected("question", tokens)
            for at, (place, _, _) in enumerate(tokens):
                front = text[:place]
                if "end" not in told[at]:
                    self.assertEqual(outcome((front,)), place, front)
                for candidate in CANDIDATES:
                    if sort_of(split_text(candidate)[0]) in told[at]:
                        continue
                    refused += 1
                    for rest in ("", " " + text[place:], " !"):
                        broken = front + (" " if at + 1 == len(tokens) else "") + candidate + rest
                        self.assertEqual(outcome((broken,)), len(broken) - len(candidate) - len(rest), broken)
        self.assertGreater(refused, 5000)

    def test_tokens_that_can_stand_there_are_gone_over(self):
        for text in TEXTS:
            tokens = split_text(text)
            told = expected("question", tokens)
            for at, (place, _, _) in enumerate(tokens):
                for candidate in CANDIDATES:
                    if sort_of(split_text(candidate)[0]) in told[at]:
                        broken = text[:place] + " " + candidate + " !"
                        self.assertEqual(outcome((broken,)), len(broken) - 1, broken)

    def test_the_first_token(self):
        self.check_error(ReadError(0), "")
        self.check_error(ReadError(2), "  ")
        for text in ("home", "cash of all = 0", "if", "0", "drop", "claim c", "question", "deciding cash of all = 0", "sectors", ">="):
            self.check_error(ReadError(0), text)
        self.check_error(ReadError(1), "\nDecide cash of all = 0")

    def test_behind_the_question(self):
        self.check_error(ReadError(10), "conserved ;")
        self.check_error(ReadError(9), "statuses types")
        self.check_error(ReadError(7), "core c d")
        self.check_error(ReadError(6), "types 0")
        self.check_error(ReadError(21), "distinguish home, all, firm")
        self.check_error(ReadError(44), "bound cash of all >= 0 by cash of all >= 0  by x")

    def test_names_of_claims(self):
        for text, place in (("core", 4), ("core ", 5), ("verdict 5", 8), ("core all", 5), ("verdict claim", 8), ("core -c", 5), ("core C", 5)):
            self.check_error(ReadError(place), text)

    def test_seven_parentheses(self):
        self.assertEqual(ask("profiles " + "(" * 6 + "home" + ")" * 6), ("profiles", ("sector", "home")))
        self.check_error(ReadError(15), "profiles " + "(" * 7 + "home" + ")" * 7)
        text = "distinguish " + "(" * 6 + "home" + ")" * 6 + ", " + "(" * 7
        self.check_error(ReadError(len(text) - 1), text)

    def test_refused_before_diagnosed(self):
        for text in ("profiles bank or", "core d e", "decide gold of all = 1", "bound gold of all = 0 by", "distinguish bank, "):
            self.check_error(ReadError(refused_at("question", text)), text)


class DiagnosticsTest(QuestionTest):
    def check(self, text, *told):
        self.check_error(Mistakes(told), text)

    def test_sectors(self):
        self.check("profiles bank or home and state", (9, "sector"), (26, "sector"))
        self.check("profiles " + " or ".join(["home"] * 13), (9 + 12 * 8, "many"))
        self.check("distinguish bank, cash", (12, "sector"), (18, "sector"))
        # Each of the two counts its own names.
        twelve = " or ".join(["all"] * 12)
        self.assertEqual(ask("distinguish " + twelve + ", " + twelve)[0], "distinguish")
        self.check("distinguish " + twelve + " or bank, " + twelve + " or none", (12 + 12 * 7, "many"), (12 + 12 * 7 + 6 + 12 * 7, "many"))

    def test_constraints(self):
        self.check("evaluate gold of bank >= 0", (9, "account"), (17, "sector"))
        self.check("evaluate each bank: gold + cash = 0", (14, "sector"), (20, "account"))
        terms = " + ".join(["cash"] * 6)
        self.check("evaluate each all: " + terms + " + gold = 0", (19 + 6 * 7, "many"))

    def test_claims(self):
        for word in ("obligations", "decide", "refutes", "minimize"):
            far = len(word)
            self.check(word + " if gold of all = 0 then cash of bank = 0", (far + 4, "account"), (far + 33, "sector"))
            premises = ", ".join(["cash of all = 0"] * 5)
            self.check(word + " if " + premises + " then gold of all = 0", (far + 4 + 4 * 17, "many"), (far + 4 + 5 * 17 - 2 + 6, "account"))

    def test_all_parts_in_order(self):
        self.check("bound if gold of all = 0 then cash of bank >= 0 by each state: silver = 0",
                   (9, "account"), (38, "sector"), (56, "sector"), (63, "account"))
        self.check("bound cash of all >= 0 by gold of all = 0", (26, "account"))

    def test_names_of_claims(self):
        for word in ("core", "verdict"):
            for name in ("d", "p", "wage", "home", "cash", "fairly"):
                self.check(word + " " + name, (len(word) + 1, "claim"))
            self.assertEqual(ask(word + "\n\n fair"), (word, "fair"))
        self.check("verdict\n\n  d", (11, "claim"))
        self.check_error(Mistakes(((5, "claim"),)), "core c", model=MODEL)

    def test_the_model_decides(self):
        other = read_model("sectors bank; accounts gold; claim c: gold of bank = 0; claim home: gold of all = 0;")
        for text, told in (
            ("profiles home", ((9, "sector"),)), ("evaluate cash of home = 0", ((9, "account"), (17, "sector"))), ("core fair", ((5, "claim"),)),
        ):
            self.assertEqual(ask(text)[0], text.split()[0])
            self.check_error(Mistakes(told), text, model=other)
        for text in ("profiles bank", "evaluate gold of bank = 0", "core home", "verdict home"):
            self.assertEqual(read_question(other, (text,))[0], text.split()[0])
            with self.assertRaises(Mistakes):
                ask(text)

    def test_the_model_stays(self):
        kept = eval(repr(ASKED))
        ask("bound cash of all >= 0 by cash of all >= 0")
        with self.assertRaises(Mistakes):
            ask("core nobody")
        self.assertEqual(ASKED, kept)


class TemplatesTest(QuestionTest):
    """[181], [182]."""

    # Templates with every place at which a value can stand.
    TEMPLATES = (
        (("profiles ", " or not ", ""), ("home", "firm")),
        (("distinguish ", ", ", ""), ("home", "firm")),
        (("core ", ""), ("c",)), (("verdict", ""), ("fair",)),
        (("evaluate ", " ", " of ", " - ", " of all >= ", ""), (3, "cash", "home", "debt", 0)),
        (("evaluate each ", ": -", "", " = ", ""), ("home", 7, "cash", 0)),
        (("decide if", "", "of ", ">=", ", each not ", ": ", "=0 then ", " of (", " and ", ") = ", ""),
         (2, "cash", "firm", 0, "home", "debt", "cash", "home", "firm", 0)),
        (("bound ", " of all >= ", " by ", "", " of ", " >= ", ""), ("cash", 0, 12, "debt", "home", 0)),
        (("obligations ", " of all = ", ""), ("cash", 0)), (("refutes ", " of all = ", ""), ("cash", 0)),
        (("minimize ", " of ", " = ", ""), ("cash", "firm", 0)),
    )

    def written(self, texts, values):
        """The template as one text, with blanks around the values."""
        text = texts[0]
        for value, more in zip(values, texts[1:]):
            text += " " + str(value) + " " + more
        return text

    def test_names_and_numbers_at_every_place(self):
        for texts, values in self.TEMPLATES:
            self.assertEqual(read_question(ASKED, texts, values), ask(self.written(texts, values)))

    def test_values_at_places_where_others_are_needed(self):
        refused = 0
        for texts, values in self.TEMPLATES:
            for at, value in enumerate(values):
                for other in ("home", "cash", "c", 0, 1, 9999):
                    drawn = (*values[:at], other, *values[at + 1:])
                    place = refused_among("question", filled(texts, drawn))
                    self.assertEqual(outcome(texts, drawn), place)
                    refused += place is not None
                    if isinstance(other, str) != isinstance(value, str):
                        self.assertIsNotNone(place)
        self.assertGreater(refused, 50)

    def test_two_values_side_by_side(self):
        self.assertEqual(ask("evaluate ", "", " of all = 0", values=(12, "cash")), ask("evaluate 12 cash of all = 0"))
        self.check_error(ReadError(11), "evaluate ", "", " of all = 0", values=(12, 3))
        self.check_error(ReadError(13), "profiles ", "", "", values=("home", "firm"))
        self.check_error(ReadError(12), "profiles ", "", "", values=("hom", "e"))
        self.check_error(ReadError(10), "evaluate ", "", " of all = 0", values=(1, 2))

    def test_values_beside_letters_and_digits(self):
        # `core` and the value `c` are two tokens, and so are `2` and 3.
        self.assertEqual(ask("core", "", values=("c",)), ("core", "c"))
        self.assertEqual(ask("evaluate 2", "of all=0", values=("cash",)), ask("evaluate 2 cash of all = 0"))
        self.check_error(ReadError(10), "evaluate 2", " cash of all = 0", values=(3,))
        self.check_error(ReadError(13), "evaluate ", "2 of all = 0", values=("cash",))
        self.check_error(ReadError(0), "prof", " home", values=("iles",))
        self.check_error(ReadError(0), "", " home", values=("profile",))
        self.check_error(ReadError(10), "profiles a", "b", values=("home",))
        self.check_error(ReadError(24), "evaluate cash of all = 0", "", values=(0,))
        self.check_error(ReadError(24), "evaluate cash of all = 0", "", values=(5,))
        self.check_error(ReadError(21), "evaluate cash of all >", "= 0", values=("a",))

    def test_values_are_no_words(self):
        for word in RESERVED:
            self.check_error(BadValue(0), "", "", values=(word,))
            self.check_error(BadValue(0), "profiles ", "", values=(word,))
        for value in ("", "a" * 13, "Home", "A", "h1", "1", "a b", " home", "home ", "-", ">=", "(", -1, 10000, -10 ** 20, 10 ** 20):
            self.check_error(BadValue(0), "profiles ", "", values=(value,))
            self.check_error(BadValue(1), "distinguish ", ", ", "", values=("home", value))
        self.assertEqual(ask("evaluate ", " cash of all = ", "", values=(9999, 0)), ask("evaluate 9999 cash of all = 0"))
        self.check_error(Mistakes(((9, "sector"),)), "profiles ", "", values=("a" * 12,))

    def test_the_first_bad_value(self):
        self.check_error(BadValue(1), "evaluate ", " ", " of ", " = 0", values=(1, "of", -1))
        self.check_error(BadValue(0), "evaluate ", " ", " of ", " = 0", values=(10000, "of", -1))
        self.check_error(BadValue(2), "evaluate ", " ", " of ", " = 0", values=(1, "gold", "ALL"))

    def test_bad_values_before_places_before_diagnostics(self):
        self.check_error(BadValue(1), "! ", " ", "", values=("a", "of"))
        self.check_error(BadValue(0), "decide ", " 5 5", values=("of",))
        self.check_error(ReadError(14), "profiles ", " ", "", values=("bank", "bank"))
        self.check_error(ReadError(16), "profiles bank or", "", values=(5,))
        self.check_error(ReadError(13), "profiles ", "!", values=("bank",))
        self.check_error(Mistakes(((9, "sector"),)), "profiles ", "", values=("bank",))

    def test_places_behind_values_of_several_digits(self):
        self.check_error(Mistakes(((14, "account"), (22, "sector"))), "evaluate ", " ", " of ", " = 0", values=(1000, "gold", "bank"))
        self.check_error(Mistakes(((11, "account"), (19, "sector"))), "evaluate ", " ", " of ", " = 0", values=(1, "gold", "bank"))
        self.check_error(Mistakes(((13, "account"), (20, "sector"))), "evaluate ", "", " of", " = 0", values=(1000, "gold", "bank"))
        self.check_error(ReadError(27), "evaluate ", " cash of all = ", "", values=(123, 4))
        self.check_error(Mistakes(((10, "sector"), (16, "sector"))), "profiles (", "or ", ")", values=("abc", "state"))

    def test_texts_with_an_invalid_token(self):
        self.check_error(ReadError(9), "profiles !", " or ", "", values=("home", "firm"))
        self.check_error(ReadError(14), "profiles ", " ! or ", "", values=("home", "firm"))
        self.check_error(ReadError(13), "profiles ", "00", "", values=("home", "firm"))
        self.check_error(ReadError(21), "profiles ", " or ", "?", values=("home", "firm"))
        self.check_error(ReadError(13), "profiles home", " 0 !", values=("firm",))

    def test_the_tuple_of_values_left_out(self):
        self.assertEqual(read_question(ASKED, ("types",)), ("types",))
        self.assertEqual(read_question(ASKED, ("core c",)), ("core", "c"))
        self.assertEqual(read_question(ASKED, ("core c",), values=()), ("core", "c"))
        self.assertEqual(read_question(ASKED, ("core ", ""), values=("c",)), ("core", "c"))

    def test_values_alone(self):
        self.check_error(ReadError(0), "", "", values=("home",))
        self.check_error(ReadError(0), "", "", values=(5,))
        self.check_error(ReadError(0), "", "", "", values=(5, "home"))

    def test_other_names_in_the_place_of_the_names(self):
        source = random.Random(182)
        model = read_model("sectors home, firm, bank; accounts cash, debt, gold;")
        put = {"home": "firm", "firm": "bank", "bank": "home", "cash": "debt", "debt": "gold", "gold": "cash", "x": "elevenlette"}

        def renamed(thing):
            if isinstance(thing, tuple):
                return tuple(renamed(part) for part in thing)
            return put.get(thing, thing)

        accepted = 0
        for _ in range(600):
            drawn = question(source, (*model[:4], (("x", BALANCED),)))
            shown = " " + show_question(drawn)
            # All names become values, and sometimes another name stands in the place of one.
            texts, values, last = [], [], 0
            for place, kind, value in split_text(shown):
                if kind == "name":
                    texts.append(shown[last:place])
                    values.append(source.choice(sorted(put)) if source.random() < 0.1 else value)
                    last = place + len(value)
            texts.append(shown[last:] if source.random() < 0.7 else shown[last:] + source.choice((" all", " 0", ";", " or all")))
            texts, values = tuple(texts), tuple(values)
            others = renamed(values)
            first, second = filled(texts, values), filled(texts, others)
            self.assertEqual([token[1] for token in first], [token[1] for token in second])
            try:
                told = read_question(model, texts, values)
            except (ReadError, Mistakes) as error:
                with self.assertRaises(type(error)) as caught:
                    read_question(model, texts, others)
                if isinstance(error, ReadError):
                    number = [token[0] for token in first].index(error.place)
                    self.assertEqual(caught.exception.place, second[number][0])
                continue
            accepted += 1
            self.assertEqual(read_question(model, texts, others), renamed(told))
        self.assertGreater(accepted, 100)

    def test_many_values(self):
        texts = ("profiles ",) + (" or ",) * 11 + ("",)
        self.assertEqual(read_question(ASKED, texts, ("home", "firm") * 6), ask("profiles " + " or ".join(["home", "firm"] * 6)))
        texts = ("evaluate ",) + (" ", " of ", " + ") * 5 + (" ", " of ", " = ", "")
        values = (5, "cash", "home") * 6 + (0,)
        self.assertEqual(read_question(ASKED, texts, values), ask("evaluate " + " + ".join(["5 cash of home"] * 6) + " = 0"))

    def test_what_was_passed_stays(self):
        texts, values = ("profiles ", ""), ("bank",)
        with self.assertRaises(Mistakes):
            read_question(ASKED, texts, values)
        self.assertEqual((texts, values), (("profiles ", ""), ("bank",)))


if __name__ == "__main__":
    unittest.main()
