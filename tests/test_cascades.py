"""Machines of stages and pipelines: [140], [141], [81], [105] and excerptcheck/cascades.py in the interface."""

import unittest

from excerptcheck.cascades import pipeline_machine, stage_machine
from excerptcheck.errors import TooComplex, TooLarge
from excerptcheck.pipelines import excerpt, stage_output
from excerptcheck.trees import mirrored, node_count
from excerptcheck.twoway import identity, run
from oracles import SEVERAL, is_least_form, pairs_of, put_out
from samples import (ALL, ANY, EMPTY, NONE, PIPELINE, both, dice_for, either, has_flags, is_plain, no, of,
                     random_pipeline, random_sequence, random_stage, sequences, star, then)

TWO = ("Aa", "Ba")
COPY = (TWO, ((0, 0),), ((0, 1), (0, 1)), ((((), ("Aa",)), (("Ba",), ("Ba",))),))
A, B, EDITOR = of("A"), of("B"), of("@")
# The fourth symbol from the end decides: 16 classes. Read from the other end, it has only 6.
FOURTH = then(ALL, A, ANY, ANY, ANY)
FROM_THE_FRONT = mirrored(FOURTH)
FIVES, SEVENS, EIGHTS = [star(then(*[ANY] * many)) for many in (5, 7, 8)]


def rule(before=ALL, target=ANY, after=ALL, output="$"):
    return (before, target, after, output)


def counting(*trees, side="left", output="a"):
    """A stage with one rule for each of these patterns on one side."""
    if side == "left":
        return tuple(rule(before=tree, output=output) for tree in trees)
    return tuple(rule(after=tree, output=output) for tree in trees)


class StageMachines(unittest.TestCase):
    def check(self, reads, stage, most=4):
        found = stage_machine(reads, stage)
        self.assertTrue(is_least_form(found), (stage, found))
        self.assertTrue(is_plain(found) and not has_flags(found))
        self.assertEqual(found[0], reads)
        for sequence in sequences(reads, most):
            self.assertEqual(run(found, sequence), stage_output(stage, sequence), (stage, sequence))
        return found

    def test_the_example_of_the_interface(self):
        found = self.check(("@a", "Aa"), ((then(ALL, A), EDITOR, ALL, "$"),))
        self.assertEqual(found, (("@a", "Aa"), ((0, 1), (0, 1)), ((0, 0),), ((((),), ((),)), ((("@a",),), ((),)))))

    def test_the_stage_of_the_first_example(self):
        self.assertEqual(self.check(TWO, PIPELINE[0]), COPY)

    def test_copying_everything(self):
        for reads in (("Zz",), TWO, SEVERAL):
            self.assertEqual(stage_machine(reads, (rule(),)), identity(reads))

    def test_over_one_symbol(self):
        found = self.check(("Zz",), (rule(EMPTY, ANY, ALL, "a$"), rule(after=EMPTY), rule(ANY, output="")), 6)
        self.assertEqual(run(found, ("Zz",) * 3), (("@a", 0), ("Zz", 0), ("Zz", 2)))

    def test_over_twelve_symbols(self):
        stage = (rule(then(ALL, of("A", "b")), of("BC"), then(of("", "c"), ALL), "$c"), rule(target=but_c()),
                 rule(after=no(then(ALL, EDITOR, ALL)), output="b"))
        found = self.check(SEVERAL, stage, 2)
        dice = dice_for("over twelve symbols")
        for _ in range(100):
            sequence = random_sequence(dice, SEVERAL, dice.randint(3, 12))
            self.assertEqual(run(found, sequence), stage_output(stage, sequence))

    def test_all_outputs(self):
        for output in ("", "$", "a", "$$$", "abc", "a$b", "$b", "c$"):
            found = self.check(TWO, (rule(target=A, output=output), rule(after=EMPTY)))
            expected = [("Aa" if sign == "$" else "@" + sign) for sign in output]
            self.assertEqual(put_out(found, ("Aa", "Ba")), (tuple(expected), ("Ba",)))

    def test_the_first_rule_that_applies(self):
        stage = (rule(before=then(ALL, A), output="a"), rule(target=A, output=""), rule(after=EMPTY, output="b"))
        self.check(TWO, stage, 5)
        for order in ((0, 2, 1), (1, 0, 2), (2, 1, 0)):
            self.check(TWO, tuple(stage[number] for number in order), 5)

    def test_left_and_right_states(self):
        # The left states count to 3, the right states tell whether an A stands next.
        stage = (rule(star(then(ANY, ANY, ANY)), ANY, then(A, ALL), "$"),)
        found = self.check(TWO, stage, 7)
        self.assertEqual((len(found[1]), len(found[2])), (3, 2))

    def test_the_pattern_after_is_read_from_the_end(self):
        for after in (then(A, A, B), then(star(then(A, B)), A), then(B, ALL, A, ANY), no(then(ALL, A, B, ALL))):
            self.check(TWO, (rule(after=after),), 6)
            self.check(TWO, (rule(before=after),), 6)

    def test_symbols_that_are_not_read_do_not_matter(self):
        stage = (rule(target=of("XYZ"), output="a"), rule(no(then(ALL, of("C"), ALL))))
        self.assertEqual(stage_machine(TWO, stage), identity(TWO))

    def test_random_stages(self):
        dice = dice_for("machines of stages")
        done = 0
        for _ in range(150):
            reads = dice.choice([("Ab",), ("@a", "Ab"), ("@b", "Aa", "Ba")])
            stage = random_stage(dice, 7)
            try:
                stage_machine(reads, stage)
            except (TooComplex, TooLarge):
                continue
            self.check(reads, stage)
            done += 1
        self.assertGreater(done, 100)


def but_c():
    return ("class", True, "", "c")


class Lists(unittest.TestCase):
    """The bound of 40 left lists and 40 right lists."""

    def refuse(self, reads, stage):
        with self.assertRaises(TooLarge) as caught:
            stage_machine(reads, stage)
        self.assertIsNone(caught.exception.stage)

    def test_the_patterns_are_no_larger_than_they_may_be(self):
        self.assertEqual((node_count(FIVES), node_count(EIGHTS)), (10, 16))

    def test_exactly_40_lists(self):
        for side in ("left", "right"):
            for reads in (("Aa",), TWO):
                with self.subTest((side, reads)):
                    stage = counting(FIVES, EIGHTS, side=side)
                    found = stage_machine(reads, stage)
                    expected = [(("@a",) if many % 5 == 0 or many % 8 == 0 else ()) for many in range(81)]
                    sequence = (reads[-1],) * 81
                    self.assertEqual(put_out(found, sequence), tuple(expected if side == "left" else expected[::-1]))
                    self.assertEqual(len(found[1 if side == "left" else 2]), 40)

    def test_exactly_41_lists(self):
        # Whether nothing stands there is one more list: the empty sequence and 40 symbols no longer have the same one.
        for side in ("left", "right"):
            for trees in ((FIVES, EIGHTS, EMPTY), (EMPTY, FIVES, EIGHTS), (EIGHTS, no(EMPTY), FIVES)):
                with self.subTest(side):
                    self.refuse(("Aa",), counting(*trees, side=side))
                    self.refuse(SEVERAL, counting(*trees, side=side))

    def test_40_and_41_lists_of_three_rules(self):
        # 5 times 7 counts, and before them as many lists as there are lengths up to the one that is told apart.
        for side in ("left", "right"):
            found = stage_machine(("Aa",), counting(FIVES, SEVENS, then(*[ANY] * 4), side=side))
            self.assertEqual(len(found[1 if side == "left" else 2]), 40)
            self.refuse(("Aa",), counting(FIVES, SEVENS, then(*[ANY] * 5), side=side))
            self.assertEqual(len(stage_machine(("Aa",), counting(FIVES, EIGHTS, FIVES))[1]), 40)

    def test_40_left_lists_and_40_right_lists(self):
        left, right = counting(FIVES, EIGHTS), counting(FIVES, EIGHTS, side="right")
        stage = tuple((one[0], ANY, other[2], output) for one, other, output in zip(left, right, ("a", "b")))
        found = stage_machine(("Aa",), stage)
        self.assertEqual((len(found[1]), len(found[2])), (40, 40))
        for many in (0, 1, 5, 8, 9, 13, 14, 41, 46, 81):
            self.assertEqual(run(found, ("Aa",) * many), stage_output(stage, ("Aa",) * many))

    def test_lists_count_and_not_the_states_of_the_least_form(self):
        # Nothing is put out in any case, so the least form would have one state.
        for side in ("left", "right"):
            nothing = counting(FIVES, EIGHTS, side=side, output="")
            self.assertEqual(stage_machine(TWO, nothing), (TWO, ((0, 0),), ((0, 0),), ((((),), ((),)),)))
            self.refuse(TWO, counting(FIVES, EIGHTS, EMPTY, side=side, output=""))
            # A first rule that applies to everything changes nothing about the lists.
            self.assertEqual(stage_machine(TWO, (rule(),) + counting(FIVES, EIGHTS, side=side)), identity(TWO))
            self.refuse(TWO, (rule(star(then(ANY, ANY, ANY)), ANY, star(then(ANY, ANY, ANY))),)
                        + counting(FIVES, EIGHTS, side=side))

    def test_many_more_lists(self):
        for side in ("left", "right"):
            self.refuse(TWO, counting(FIVES, EIGHTS, SEVENS, side=side))

    def test_lists_of_the_symbols_that_are_read(self):
        # Only symbols of A are counted by 3, so over other symbols there is only one count.
        threes = star(either(B, then(A, star(B), A, star(B), A)))
        self.assertEqual(len(stage_machine(("Aa",), counting(threes, FIVES))[1]), 15)
        self.assertEqual(len(stage_machine(TWO, counting(threes, FIVES))[1]), 15)
        self.assertEqual(len(stage_machine(("Ba",), counting(threes, FIVES))[1]), 1)
        self.assertEqual(len(stage_machine(("Ba",), counting(threes, FIVES, EIGHTS))[1]), 1)
        self.refuse(("Aa",), counting(threes, FIVES, EIGHTS))


class TooComplexPatterns(unittest.TestCase):
    def test_before_and_after(self):
        # What stands before is read as the pattern says, what stands behind from the end on.
        for stage in ((rule(before=FOURTH),), (rule(after=FROM_THE_FRONT),), (rule(), rule(), rule(before=FOURTH)),
                      (rule(), rule(after=no(FROM_THE_FRONT)))):
            with self.assertRaises(TooComplex):
                stage_machine(TWO, stage)
        for stage in ((rule(before=FROM_THE_FRONT),), (rule(after=FOURTH),)):
            found = stage_machine(TWO, stage)
            for sequence in sequences(TWO, 7):
                self.assertEqual(run(found, sequence), stage_output(stage, sequence))

    def test_a_part_is_enough(self):
        for stage in ((rule(before=both(NONE, FOURTH)),), (rule(after=either(ALL, FROM_THE_FRONT)),)):
            with self.assertRaises(TooComplex):
                stage_machine(TWO, stage)

    def test_a_rule_that_never_applies(self):
        with self.assertRaises(TooComplex):
            stage_machine(TWO, (rule(), rule(FOURTH, NONE, ALL, "")))

    def test_the_symbols_that_are_read_decide(self):
        self.assertEqual(stage_machine(("Aa",), (rule(before=no(FOURTH)),)),
                         (("Aa",), ((1,), (2,), (3,), (4,), (4,)), ((0,),),
                          ((((("Aa",),),),) * 4 + ((((),),),))))
        self.assertEqual(stage_machine(("@a", "Ba"), (rule(before=no(FOURTH)),)), identity(("@a", "Ba")))

    def test_too_complex_before_too_large(self):
        for side in ("left", "right"):
            large = counting(FIVES, EIGHTS, side=side)
            for rest in (rule(FOURTH, ANY, EMPTY), rule(EMPTY, ANY, FROM_THE_FRONT)):
                with self.assertRaises(TooComplex):
                    stage_machine(TWO, large + (rest,))
                with self.assertRaises(TooComplex):
                    stage_machine(TWO, (rest,) + large)
            with self.assertRaises(TooLarge):
                stage_machine(TWO, large + (rule(EMPTY, ANY, EMPTY),))


LARGE = counting(FIVES, EIGHTS, EMPTY)
COMPLEX = (rule(before=FOURTH),)


class PipelineMachines(unittest.TestCase):
    def check(self, letters, owners, pipeline, most=4, longer=()):
        found = pipeline_machine(letters, owners, pipeline)
        reads = tuple(sorted(owner + letter for owner in owners for letter in letters))
        self.assertEqual(found[0], reads)
        self.assertTrue(is_least_form(found), pipeline)
        self.assertTrue(is_plain(found) and not has_flags(found))
        for document in [*sequences(reads, most), *longer]:
            self.assertEqual(run(found, document), excerpt(pipeline, document), (pipeline, document))
        return found

    def test_the_example_of_the_interface(self):
        self.assertEqual(self.check("a", "AB", PIPELINE, 6), COPY)

    def test_one_stage_reads_the_owner_symbols(self):
        stage = (rule(then(ALL, A), ANY, ALL, "$a"),)
        self.assertEqual(self.check("ab", "AB", (stage,)), stage_machine(("Aa", "Ab", "Ba", "Bb"), stage))

    def test_the_same_stage_several_times(self):
        self.assertEqual(self.check("a", "AB", PIPELINE * 2), COPY)
        self.assertEqual(self.check("a", "AB", PIPELINE * 3), COPY)

    def test_a_later_stage_reads_the_editors_symbols(self):
        inserting = (rule(target=A, output="a$"), rule(target=B, output="$b"))
        swapping = (rule(before=EMPTY, target=EDITOR, output=""), rule(target=EDITOR, output="$$"),
                    rule(before=then(ALL, EDITOR)))
        found = self.check("ab", "AB", (inserting, swapping), 3)
        self.assertEqual(run(found, ("Bb", "Aa", "Ba")),
                         (("@b", 0), ("@b", 0), ("@a", 1), ("@a", 1), ("Aa", 1), ("@b", 2), ("@b", 2)))

    def test_three_stages(self):
        first = (rule(target=A, output="$a"), rule(target=B, after=then(A, ALL), output="b"))
        second = (rule(before=then(ALL, EDITOR), output="$$"), rule(target=EDITOR, output="$"))
        third = (rule(after=EMPTY, output="ab$"), rule(target=EDITOR, output=""), rule())
        self.check("ab", "AB", (first, second, third), 4)
        self.check("ab", "A", (third, second, first), 5)

    def test_27_symbols_for_one(self):
        tripling = (rule(output="$$$"),)
        found = self.check("a", "A", (tripling,) * 3)
        self.assertEqual(found[3], ((((("Aa",) * 27),),),))

    def test_nothing_is_put_out(self):
        nothing = (rule(target=EDITOR),)
        least = (TWO, ((0, 0),), ((0, 0),), ((((),), ((),)),))
        for pipeline in ((nothing,), (nothing, (rule(output="a"),)), ((rule(),), nothing)):
            self.assertEqual(self.check("a", "AB", pipeline), least)

    def test_alphabets_of_one_and_of_nine_owner_symbols(self):
        pipeline = (((rule(then(ALL, of("A", "b")), of("BC"), ALL, "$c")), rule(target=of("", "b"), output="a")),
                    (rule(target=EDITOR, after=then(of("C"), ALL), output=""), rule()))
        longer = [random_sequence(dice_for("nine owner symbols"), SEVERAL[3:], many) for many in (3, 5, 20, 60)]
        self.check("abc", "ABC", pipeline, 2, longer)
        self.check("z", "Q", ((rule(EMPTY, output="z$"), rule(after=EMPTY)), (rule(target=of("@"), output="$z"),)), 6)

    def test_random_pipelines(self):
        dice = dice_for("machines of pipelines")
        done = 0
        for _ in range(150):
            pipeline = random_pipeline(dice, 6)
            letters, owners = dice.choice([("ab", "A"), ("ab", "AB"), ("ab", "B")])
            reads = tuple(owner + letter for owner in owners for letter in letters)
            longer = [random_sequence(dice, reads, dice.randint(5, 30)) for _ in range(10)]
            try:
                pipeline_machine(letters, owners, pipeline)
            except (TooComplex, TooLarge):
                continue
            self.check(letters, owners, pipeline, 3, longer)
            done += 1
        self.assertGreater(done, 100)


class PipelineErrors(unittest.TestCase):
    def refuse(self, stage, letters, owners, *pipeline):
        with self.assertRaises(TooLarge) as caught:
            pipeline_machine(letters, owners, pipeline)
        self.assertEqual(caught.exception.stage, stage)
        self.assertIs(caught.exception.stage.__class__, int)

    def complain(self, letters, owners, *pipeline):
        with self.assertRaises(TooComplex):
            pipeline_machine(letters, owners, pipeline)

    def test_a_stage_with_too_many_lists(self):
        self.refuse(0, "a", "AB", LARGE)
        self.refuse(0, "a", "AB", LARGE, (rule(),), (rule(),))
        self.refuse(1, "a", "AB", (rule(),), LARGE)
        self.refuse(2, "a", "AB", (rule(),), (rule(),), LARGE)

    def test_a_stage_with_too_many_lists_behind_one_that_puts_out_nothing(self):
        self.refuse(1, "a", "A", (rule(output=""),), LARGE)
        self.refuse(2, "a", "A", (rule(output=""),), (rule(),), counting(FIVES, EIGHTS, EMPTY, side="right"))

    def test_composing_gives_too_many_pairs(self):
        for side in ("left", "right"):
            fives, eights, eights_and_none = cycles(side)
            found = pipeline_machine("ab", "A", (fives, eights))
            self.assertEqual(len(found[1 if side == "left" else 2]), 40)
            self.refuse(1, "ab", "A", fives, eights_and_none)
            self.refuse(1, "ab", "A", eights_and_none, fives)
            self.refuse(2, "ab", "A", (rule(),), fives, eights_and_none)
            self.refuse(2, "ab", "A", fives, eights, eights_and_none)
            self.refuse(1, "ab", "A", fives, eights_and_none, (rule(),))

    def test_too_complex_in_each_stage(self):
        self.complain("a", "AB", COMPLEX)
        self.complain("a", "AB", (rule(),), COMPLEX)
        self.complain("a", "AB", (rule(),), (rule(),), (rule(after=FROM_THE_FRONT),))
        self.complain("a", "AB", (rule(output=""),), COMPLEX)

    def test_the_first_stage_reads_owner_symbols_and_later_ones_all_symbols(self):
        # Over the owner symbols no symbol belongs to the editor.
        editors = then(ALL, EDITOR, ANY, ANY, ANY)
        self.assertEqual(pipeline_machine("a", "AB", ((rule(before=no(editors)),),)), identity(TWO))
        self.complain("a", "AB", (rule(),), (rule(before=no(editors)),))
        # Over one owner symbol FOURTH just counts; with the editor's symbol it is too complex.
        self.assertEqual(len(pipeline_machine("a", "A", (COMPLEX,))[1]), 5)
        self.complain("a", "A", (rule(),), COMPLEX)

    def test_lists_over_all_symbols_of_the_alphabet(self):
        # Counting the editor's symbols by 2, 3 and 7 gives 42 lists, but over the owner symbols there is only one.
        stage = tuple(rule(before=times_of_the_editor(many)) for many in (2, 3, 7))
        self.assertEqual(pipeline_machine("a", "A", (stage,)), identity(("Aa",)))
        self.refuse(1, "a", "A", (rule(),), stage)

    def test_the_error_that_is_met_first(self):
        self.refuse(0, "a", "AB", LARGE, COMPLEX)
        self.complain("a", "AB", COMPLEX, LARGE)
        self.refuse(1, "a", "AB", (rule(),), LARGE, COMPLEX)
        self.complain("a", "AB", (rule(),), COMPLEX, LARGE)
        self.refuse(0, "a", "AB", LARGE, LARGE, LARGE)
        self.refuse(1, "a", "AB", (rule(),), LARGE, LARGE)
        # Composing the first two stages comes before the machine of the third stage.
        fives, _, eights_and_none = cycles("left")
        self.refuse(1, "ab", "AB", fives, eights_and_none, COMPLEX)
        self.complain("ab", "AB", fives, COMPLEX, eights_and_none)
        # In one stage TooComplex comes first.
        self.complain("a", "AB", (rule(),), LARGE[:2] + COMPLEX)


def cycles(side):
    """Stages that put out one symbol for each, by 5 counts, by 8 counts, and by 8 counts and whether there is none."""
    def stage(*pairs):
        return tuple(counting(tree, side=side, output=output)[0] for tree, output in pairs + ((ALL, "$"),))

    return (stage((FIVES, "a")), stage((EIGHTS, "b")), stage((EMPTY, "a"), (EIGHTS, "b")))


def times_of_the_editor(many):
    """The sequences in which the number of the editor's symbols is a multiple."""
    others = star(of("A"))
    return star(either(of("A"), then(*[part for _ in range(many) for part in (EDITOR, others)])))


if __name__ == "__main__":
    unittest.main()
