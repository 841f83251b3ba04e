"""[6], [170] to [174] and the interface's heading `ledgerproof/desks.py`."""

import random
import unittest

import things
from ledgerproof.desks import Desk
from ledgerproof.errors import Mistakes, NothingToRedo, NothingToUndo, ReadError
from ledgerproof.models import changed
from ledgerproof.printer import show_model, show_script
from ledgerproof.reader import read_model, read_script
from ledgerproof.verdicts import statuses_of
from printed import check_examples

EXAMPLES = """
>>> from ledgerproof.desks import Desk
>>> desk = Desk.opened("sectors a; accounts x; type give: a [-x] to all [x]; claim safe: x of a >= 0;")
>>> desk.statuses()
(('safe', 'refuted'),)
>>> desk.apply("assume firm: each a: x >= 0; claim whole: x of all = 0;")
2
>>> desk.statuses()
(('safe', 'holds'), ('whole', 'holds'))
>>> desk.tried("drop firm;", "drop whole;")
((('safe', 'refuted'),), (('safe', 'refuted'), ('whole', 'holds')), (('safe', 'holds'), ('whole', 'holds')))
>>> desk.apply("drop safe; drop safe;")
raises Mistakes(((16, 'name'),))
>>> desk.undo()
(0, 1)
>>> desk.source()
'sectors a;\\naccounts x;\\ntype give: a [-x] to all [x];\\nclaim safe: x of a >= 0;'
>>> desk.undo()
raises NothingToUndo
>>> desk.redo()
(1, 0)
"""

TEXT = "sectors a; accounts x; type give: a [-x] to all [x]; claim safe: x of a >= 0;"
MODEL = read_model(TEXT)

# Each of these can be applied behind those before it.
STEPS = (
    "assume p: x of a >= 0;", "claim whole: x of all = 0;", "drop p;", "", "type mint: all [] to a [x];",
    "assume q: each a: x >= 0; claim c: each all: x = 0;", "drop give;", "drop mint; drop q;", "claim d: x of all >= 0;",
    "drop c; drop d;", "assume p: x of a = 0;", "drop safe;", "type gift: all [x] to all [];",
)


def state(desk):
    """Everything that can be asked of a desk."""
    return (desk.model, desk.undoable, desk.redoable, desk.source(), desk.statuses())


def history(desk):
    """The models that can be reached from a desk by undoing and redoing, asked of a clone."""
    other = desk.clone()
    models = []
    other.undo(steps=other.undoable)
    models.append(other.model)
    while other.redoable:
        other.redo()
        models.append(other.model)
    return (models, desk.undoable)


class DeskTest(unittest.TestCase):
    def check_unchanged(self, desk, call, error, **attributes):
        before = (state(desk), history(desk))
        with self.assertRaises(error) as caught:
            call()
        self.assertIs(type(caught.exception), error)
        self.assertEqual(vars(caught.exception), attributes)
        self.assertEqual((state(desk), history(desk)), before)

    def applied(self, *texts):
        desk = Desk(MODEL)
        for text in texts:
            desk.apply(text)
        return desk


class PrintedTest(unittest.TestCase):
    def test_examples_of_the_interface(self):
        check_examples(self, EXAMPLES, {})


class MakingTest(DeskTest):
    def test_a_new_desk(self):
        for desk in (Desk(MODEL), Desk.opened(TEXT)):
            self.assertEqual(desk.model, MODEL)
            self.assertEqual((desk.undoable, desk.redoable), (0, 0))
            self.assertEqual(desk.statuses(), (("safe", "refuted"),))
            self.assertEqual(desk.source(), show_model(MODEL))
            self.assertIs(type(desk), Desk)

    def test_opened_with_a_text_that_is_refused(self):
        for text, error in (
            ("", ReadError(0)), ("sectors a; accounts", ReadError(19)), (TEXT + " drop", ReadError(len(TEXT) + 5)),
            ("sectors a, a; accounts x; drop x;", Mistakes(((11, "duplicate"), (31, "name")))), (TEXT + "!", ReadError(len(TEXT))),
        ):
            with self.assertRaises(type(error)) as caught:
                Desk.opened(text)
            self.assertEqual(vars(caught.exception), vars(error))

    def test_opened_gives_new_desks(self):
        one, other = Desk.opened(TEXT), Desk.opened(TEXT)
        one.apply("drop safe;")
        self.assertEqual((other.model, other.undoable), (MODEL, 0))

    def test_class_value(self):
        self.assertEqual((Desk.MOST_CHANGES, Desk(MODEL).MOST_CHANGES), (10, 10))

    def test_properties_cannot_be_assigned(self):
        desk = Desk(MODEL)
        for name in ("model", "undoable", "redoable"):
            with self.assertRaises(AttributeError):
                setattr(desk, name, 1)

    def test_models_beyond_the_bounds(self):
        # What the program returned may be passed on: a model with more claims than can be read.
        model = (*MODEL[:4], tuple((name, MODEL[4][0][1]) for name in "abcdefghij"))
        desk = Desk(model)
        self.assertEqual(desk.statuses(), tuple((name, "refuted") for name in "abcdefghij"))
        self.assertEqual(desk.apply("drop a;"), 1)
        self.assertEqual(len(desk.statuses()), 9)


class ApplyTest(DeskTest):
    def test_no_one_and_several_statements(self):
        desk = Desk(MODEL)
        self.assertEqual(desk.apply(""), 0)
        self.assertEqual((desk.model, desk.undoable), (MODEL, 1))
        self.assertEqual(desk.apply(" \n "), 0)
        self.assertEqual((desk.model, desk.undoable), (MODEL, 2))
        self.assertEqual(desk.apply("assume p: x of a >= 0;"), 1)
        self.assertEqual(desk.apply("drop p; drop safe; claim safe: x of all = 0;"), 3)
        self.assertEqual((desk.undoable, desk.redoable), (4, 0))
        self.assertEqual(desk.source(), "sectors a;\naccounts x;\ntype give: a [-x] to all [x];\nclaim safe: x of all = 0;")

    def test_the_model_as_it_is(self):
        desk = self.applied("assume p: x of a >= 0;")
        self.assertEqual(desk.apply("drop p;"), 1)
        self.check_unchanged(desk, lambda: desk.apply("drop p;"), Mistakes, diagnostics=((5, "name"),))
        desk.undo()
        self.assertEqual(desk.apply("drop p;"), 1)

    def test_refused_scripts(self):
        desk = self.applied(*STEPS[:4])
        desk.undo(steps=2)
        for text, place in (("drop", 4), ("drop safe", 9), ("give;", 0), ("drop safe; !", 11), ("claim c: x of a = 1;", 18)):
            self.check_unchanged(desk, lambda text=text: desk.apply(text), ReadError, place=place)
        for text, told in (
            ("drop safe; drop safe;", ((16, "name"),)), ("claim give: y of b = 0;", ((6, "duplicate"), (12, "account"), (17, "sector"))),
            ("drop safe; assume p: x of a = 0;", ((18, "duplicate"),)),
        ):
            self.check_unchanged(desk, lambda text=text: desk.apply(text), Mistakes, diagnostics=told)
        self.assertEqual((desk.undoable, desk.redoable), (2, 2))
        self.assertEqual(desk.redo(steps=2), (4, 0))

    def test_eleven_changes(self):
        desk = Desk(MODEL)
        models = [MODEL]
        for number, text in enumerate(STEPS):
            desk.apply(text)
            models.append(desk.model)
            self.assertEqual((desk.undoable, desk.redoable), (min(number + 1, 10), 0))
        self.assertGreater(len(STEPS), 11)
        for number in range(10):
            self.assertEqual(desk.model, models[-1 - number])
            self.assertEqual(desk.undo(), (9 - number, number + 1))
        self.assertEqual(desk.model, models[-11])
        self.check_unchanged(desk, desk.undo, NothingToUndo)

    def test_ten_changes_are_all_undone(self):
        desk = self.applied(*STEPS[:10])
        self.assertEqual(desk.undo(steps=10), (0, 10))
        self.assertEqual(desk.model, MODEL)
        desk = self.applied(*STEPS[:11])
        self.assertEqual(desk.undo(steps=10), (0, 10))
        self.assertEqual(desk.model, changed(MODEL, read_script(MODEL, STEPS[0])))

    def test_what_is_forgotten_can_never_be_undone(self):
        desk = self.applied(*STEPS[:11])
        desk.undo(steps=10)
        self.check_unchanged(desk, desk.undo, NothingToUndo)
        desk.apply("claim n: x of all = 0;")
        self.assertEqual(desk.undo(), (0, 1))
        self.check_unchanged(desk, desk.undo, NothingToUndo)

    def test_empty_scripts_are_changes(self):
        desk = self.applied(STEPS[0], *[""] * 10)
        self.assertEqual((desk.undoable, desk.undo(steps=10)), (10, (0, 10)))
        self.assertEqual(desk.model, changed(MODEL, read_script(MODEL, STEPS[0])))
        desk = self.applied(STEPS[0])
        desk.undo()
        desk.apply("")
        self.check_unchanged(desk, desk.redo, NothingToRedo)


class UndoTest(DeskTest):
    def test_the_latest_change_first(self):
        desk = self.applied(*STEPS[:3])
        models = history(desk)[0]
        self.assertEqual(len(models), 4)
        self.assertEqual(desk.undo(), (2, 1))
        self.assertEqual(desk.model, models[2])
        self.assertEqual(desk.undo(steps=1), (1, 2))
        self.assertEqual(desk.model, models[1])
        self.assertEqual(desk.redo(), (2, 1))
        self.assertEqual(desk.model, models[2])
        self.assertEqual(desk.redo(), (3, 0))
        self.assertEqual(desk.model, models[3])

    def test_no_steps(self):
        desk = Desk(MODEL)
        self.assertEqual((desk.undo(steps=0), desk.redo(steps=0)), ((0, 0), (0, 0)))
        desk = self.applied(*STEPS[:3])
        desk.undo()
        before = (state(desk), history(desk))
        self.assertEqual((desk.undo(steps=0), desk.redo(steps=0)), ((2, 1), (2, 1)))
        self.assertEqual((state(desk), history(desk)), before)

    def test_several_steps_and_as_many_as_there_are(self):
        desk = self.applied(*STEPS[:5])
        models = history(desk)[0]
        self.assertEqual(desk.undo(steps=2), (3, 2))
        self.assertEqual(desk.model, models[3])
        self.assertEqual(desk.undo(steps=3), (0, 5))
        self.assertEqual(desk.model, MODEL)
        self.assertEqual(desk.redo(steps=4), (4, 1))
        self.assertEqual(desk.model, models[4])
        self.assertEqual(desk.redo(steps=1), (5, 0))
        self.assertEqual(desk.model, models[5])

    def test_more_steps_than_there_are(self):
        desk = self.applied(*STEPS[:5])
        desk.undo(steps=2)
        for steps in (4, 5, 10, 11, 20):
            self.check_unchanged(desk, lambda steps=steps: desk.undo(steps=steps), NothingToUndo)
        for steps in (3, 5, 10, 11, 20):
            self.check_unchanged(desk, lambda steps=steps: desk.redo(steps=steps), NothingToRedo)
        new = Desk(MODEL)
        self.check_unchanged(new, new.undo, NothingToUndo)
        self.check_unchanged(new, new.redo, NothingToRedo)

    def test_steps_are_passed_by_name(self):
        desk = self.applied(*STEPS[:2])
        for call in (lambda: desk.undo(1), lambda: desk.redo(1)):
            with self.assertRaises(TypeError):
                call()

    def test_redo_behind_a_change(self):
        desk = self.applied(*STEPS[:3])
        desk.undo(steps=2)
        desk.apply("claim n: x of all = 0;")
        self.assertEqual((desk.undoable, desk.redoable), (2, 0))
        self.check_unchanged(desk, desk.redo, NothingToRedo)
        self.assertEqual(desk.undo(), (1, 1))
        self.assertEqual(desk.redo(), (2, 0))
        self.assertEqual(desk.model[4][-1][0], "n")

    def test_over_many_deeds(self):
        source = random.Random(172)
        for _ in range(30):
            desk = Desk(things.small_model(source, (2, 2, 3, 1, 2)))
            models, at = [desk.model], 0
            for _ in range(40):
                deed = source.choice(("apply", "apply", "undo", "redo"))
                steps = source.randint(0, 3)
                if deed == "apply":
                    script = things.script(source, desk.model, source.randint(0, 2))
                    self.assertEqual(desk.apply(show_script(script)), len(script))
                    models = [*models[:at + 1], changed(models[at], script)][-11:]
                    at = len(models) - 1
                elif deed == "undo" and steps <= at:
                    at -= steps
                    self.assertEqual(desk.undo(steps=steps), (at, len(models) - 1 - at))
                elif deed == "undo":
                    self.check_unchanged(desk, lambda steps=steps: desk.undo(steps=steps), NothingToUndo)
                elif at + steps < len(models):
                    at += steps
                    self.assertEqual(desk.redo(steps=steps), (at, len(models) - 1 - at))
                else:
                    self.check_unchanged(desk, lambda steps=steps: desk.redo(steps=steps), NothingToRedo)
                self.assertEqual(desk.model, models[at])
                self.assertEqual((desk.undoable, desk.redoable), (at, len(models) - 1 - at))
            self.assertEqual(history(desk), (models, at))


class TriedTest(DeskTest):
    def test_three_different_statuses(self):
        desk = self.applied("claim whole: x of all = 0;")
        self.assertEqual(desk.tried("assume p: x of a >= 0;", "type mint: all [] to a [x];"), (
            (("safe", "holds"), ("whole", "refuted")),
            (("safe", "holds"), ("whole", "holds")),
            (("safe", "refuted"), ("whole", "holds")),
        ))

    def test_empty_scripts(self):
        desk = Desk(MODEL)
        self.assertEqual(desk.tried("", ""), (desk.statuses(),) * 3)
        bare = Desk(read_model("sectors; accounts x;"))
        self.assertEqual(bare.tried("claim c: x of all = 0;", "drop c;"), ((), (("c", "holds"),), ()))

    def test_the_second_text_is_read_for_the_model_behind_the_first(self):
        desk = Desk(MODEL)
        told = desk.tried("claim c: x of all = 0; assume p: x of a = 0;", "drop c; drop p; claim d: x of all >= 0;")
        self.assertEqual(told, (
            (("safe", "refuted"), ("d", "holds")), (("safe", "holds"), ("c", "holds")), (("safe", "refuted"),),
        ))
        self.check_unchanged(desk, lambda: desk.tried("drop safe;", "drop safe;"), Mistakes, diagnostics=((5, "name"),))
        self.check_unchanged(desk, lambda: desk.tried("claim c: x of all = 0;", "assume c: x of all = 0;"), Mistakes,
                             diagnostics=((7, "duplicate"),))
        self.assertEqual(desk.tried("drop give;", "type give: all [] to all [x]; drop safe;"), ((), (("safe", "holds"),), (("safe", "refuted"),)))

    def test_errors_of_the_first_text_come_first(self):
        desk = self.applied("assume p: x of a >= 0;")
        desk.undo()
        for first, second, error in (
            ("drop x", "drop", ReadError(6)), ("drop x;", "drop", Mistakes(((5, "name"),))), ("drop x;", "drop give safe;", Mistakes(((5, "name"),))),
            ("drop", "drop x;", ReadError(4)), ("drop safe;", "drop", ReadError(4)), ("drop safe;", "drop x;", Mistakes(((5, "name"),))),
            ("drop x;", "drop give; drop y;", Mistakes(((5, "name"),))), ("", "drop give; drop y;", Mistakes(((16, "name"),))),
        ):
            self.check_unchanged(desk, lambda first=first, second=second: desk.tried(first, second), type(error), **vars(error))

    def test_nothing_changes(self):
        desk = self.applied(*STEPS[:4])
        desk.undo(steps=2)
        before = (state(desk), history(desk))
        desk.tried("drop safe; claim n: x of all = 0;", "assume o: x of a = 0;")
        self.assertEqual((state(desk), history(desk)), before)
        self.assertEqual(desk.redo(steps=2), (4, 0))

    def test_the_order(self):
        source = random.Random(173)
        for _ in range(60):
            model = things.small_model(source, (2, 2, 3, 1, 3))
            desk = Desk(model)
            first = things.script(source, model, 2)
            between = changed(model, first)
            second = things.script(source, between, 2)
            expected = (statuses_of(changed(between, second)), statuses_of(between), statuses_of(model))
            self.assertEqual(desk.tried(show_script(first), show_script(second)), expected)
            self.assertEqual(desk.model, model)


class CloneTest(DeskTest):
    def test_a_clone_has_everything(self):
        desk = self.applied(*STEPS[:5])
        desk.undo(steps=2)
        other = desk.clone()
        self.assertIs(type(other), Desk)
        self.assertIsNot(other, desk)
        self.assertEqual((state(other), history(other)), (state(desk), history(desk)))
        self.assertEqual(other.redo(steps=2), (5, 0))
        self.assertEqual(other.undo(steps=5), (0, 5))
        self.assertEqual(other.model, MODEL)

    def test_neither_is_changed_by_the_other_one(self):
        for number in (0, 1):
            desk = self.applied(*STEPS[:5])
            desk.undo(steps=2)
            pair = (desk, desk.clone())
            busy, still = pair[number], pair[1 - number]
            before = (state(still), history(still))
            for deed in (
                lambda: busy.undo(), lambda: busy.redo(steps=2), lambda: busy.apply("drop safe;"), lambda: busy.undo(steps=2),
                lambda: busy.apply(""), lambda: busy.tried("", ""),
            ):
                deed()
                self.assertEqual((state(still), history(still)), before)

    def test_clones_of_new_desks_and_of_clones(self):
        desk = Desk(MODEL)
        other = desk.clone().clone()
        other.apply(STEPS[0])
        self.assertEqual((desk.undoable, other.undoable, other.clone().undoable), (0, 1, 1))

    def test_the_oldest_is_forgotten_in_clones_too(self):
        desk = self.applied(*STEPS[:10])
        other = desk.clone()
        other.apply(STEPS[10])
        self.assertEqual((desk.undo(steps=10), other.undo(steps=10)), ((0, 10), (0, 10)))
        self.assertEqual(desk.model, MODEL)
        self.assertNotEqual(other.model, MODEL)


class StatusesTest(DeskTest):
    """[174]: the statuses are those of the model as it is, behind any deeds."""

    def test_behind_any_deeds(self):
        source = random.Random(174)
        for _ in range(25):
            desk = Desk(things.small_model(source, (2, 2, 3, 1, 3)))
            for _ in range(12):
                deed = source.choice(("apply", "undo", "redo", "tried", "wrong", "clone"))
                if deed == "apply":
                    desk.apply(show_script(things.script(source, desk.model, 2)))
                elif deed == "undo" and desk.undoable:
                    desk.undo(steps=source.randint(1, desk.undoable))
                elif deed == "redo" and desk.redoable:
                    desk.redo(steps=source.randint(1, desk.redoable))
                elif deed == "tried":
                    desk.tried(show_script(things.script(source, desk.model, 2)), "")
                elif deed == "wrong":
                    self.check_unchanged(desk, lambda: desk.apply("drop nobody;"), Mistakes, diagnostics=((5, "name"),))
                elif deed == "clone":
                    desk = desk.clone()
                self.assertEqual(desk.statuses(), statuses_of(desk.model))
                self.assertEqual(desk.statuses(), Desk(desk.model).statuses())
                self.assertEqual(desk.source(), show_model(desk.model))


if __name__ == "__main__":
    unittest.main()
