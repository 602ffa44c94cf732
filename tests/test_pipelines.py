"""Rules, stages, pipelines and blocks: [120] to [123] and excerptcheck/pipelines.py in the interface."""

import unittest

from excerptcheck.matching import beginnings_that_match, ends_that_match, matches
from excerptcheck.pipelines import blocks, excerpt, stage_output, trace
from oracles import applying_rule, excerpt_told, stage_told
from samples import (ALL, ANY, EMPTY, NONE, PIPELINE, both, but, dice_for, either, has_flags, is_plain, members, no, of,
                     random_pipeline, random_sequence, random_stage, random_tree, sequences, star, then)

A, B, EDITOR = of("A"), of("B"), of("@")
DOCUMENT = ("Aa", "Ba", "Ba", "Aa")


def rule(before=ALL, target=ANY, after=ALL, output="$"):
    return (before, target, after, output)


class Rules(unittest.TestCase):
    def check(self, stage, sequence, expected):
        found = stage_output(stage, sequence)
        self.assertEqual(found, expected)
        self.assertEqual(found, stage_told(stage, sequence))
        self.assertTrue(is_plain(found) and not has_flags(found))

    def test_the_example_of_the_interface(self):
        stage = ((EMPTY, ANY, ALL, "b$b"),)
        self.check(stage, ("Aa", "Ba"), (("@b", 0), ("Aa", 0), ("@b", 0)))

    def test_the_stage_of_the_first_example(self):
        self.check(PIPELINE[0], DOCUMENT, (("Aa", 0), ("Ba", 1), ("Ba", 2)))

    def test_the_output_is_put_out_character_by_character(self):
        for output, expected in (("", ()), ("$", ("Ac",)), ("b", ("@b",)), ("$$$", ("Ac",) * 3),
                                 ("abc", ("@a", "@b", "@c")), ("$z", ("Ac", "@z")), ("z$", ("@z", "Ac")),
                                 ("$a$", ("Ac", "@a", "Ac")), ("aa$", ("@a", "@a", "Ac"))):
            with self.subTest(output):
                self.check((rule(output=output),), ("Ac",), tuple((symbol, 0) for symbol in expected))

    def test_an_editors_symbol_is_copied_as_it_is(self):
        self.check((rule(output="$a"),), ("@b", "Bb"), (("@b", 0), ("@a", 0), ("Bb", 1), ("@a", 1)))

    def test_before_is_everything_before_the_symbol(self):
        sequence = ("Aa", "Ab", "Aa", "Ba")
        self.check((rule(before=EMPTY),), sequence, (("Aa", 0),))
        self.check((rule(before=ANY),), sequence, (("Ab", 1),))
        self.check((rule(before=then(ANY, ANY, ANY)),), sequence, (("Ba", 3),))
        self.check((rule(before=then(ALL, of("", "b"))),), sequence, (("Aa", 2),))
        self.check((rule(before=of("", "b")),), sequence, ())
        self.check((rule(before=no(then(ALL, of("", "b"), ALL))),), sequence, (("Aa", 0), ("Ab", 1)))

    def test_after_is_everything_behind_the_symbol(self):
        sequence = ("Aa", "Ab", "Aa", "Ba")
        self.check((rule(after=EMPTY),), sequence, (("Ba", 3),))
        self.check((rule(after=ANY),), sequence, (("Aa", 2),))
        self.check((rule(after=then(ANY, ANY, ANY)),), sequence, (("Aa", 0),))
        self.check((rule(after=then(of("", "b"), ALL)),), sequence, (("Aa", 0),))
        self.check((rule(after=of("", "b")),), sequence, ())
        self.check((rule(after=then(of("", "a"), of("", "a"))),), sequence, (("Ab", 1),))

    def test_the_symbol_itself_belongs_to_neither_side(self):
        self.check((rule(EMPTY, A, EMPTY),), ("Aa",), (("Aa", 0),))
        self.check((rule(A, A, EMPTY),), ("Aa",), ())
        self.check((rule(EMPTY, A, A),), ("Aa",), ())

    def test_the_target(self):
        sequence = ("@a", "Aa", "Ab", "Zz")
        self.check((rule(target=of("A", "b")),), sequence, (("Ab", 2),))
        self.check((rule(target=but("A", "b")),), sequence, (("@a", 0), ("Aa", 1), ("Zz", 3)))
        self.check((rule(target=NONE),), sequence, ())
        self.check((rule(target=EDITOR),), sequence, (("@a", 0),))

    def test_the_first_of_several_rules_that_apply(self):
        stage = (rule(target=A, output="a"), rule(output="b$"), rule(target=B, output="c"))
        self.check(stage, ("Aa", "Ba"), (("@a", 0), ("@b", 1), ("Ba", 1)))
        self.assertEqual(trace((stage,), ("Aa", "Ba")), ((0, 1),))
        # All three rules apply, in each order.
        for outputs in ("abc", "acb", "bac", "bca", "cab", "cba"):
            self.check(tuple(rule(output=output) for output in outputs), ("Zz",), (("@" + outputs[0], 0),))

    def test_a_rule_that_puts_out_nothing_stands_before_others(self):
        stage = (rule(target=A, output=""), rule(output="$"))
        self.check(stage, ("Aa", "Ba", "Ab"), (("Ba", 1),))
        self.assertEqual(trace((stage,), ("Aa", "Ba", "Ab")), ((0, 1, 0),))

    def test_no_rule_applies(self):
        stage = (rule(target=A), rule(before=NONE), rule(after=NONE))
        self.check(stage, ("Ba", "Zz"), ())
        self.assertEqual(trace((stage,), ("Ba", "Aa", "Zz")), ((None, 0, None),))

    def test_a_rule_needs_all_three(self):
        stage = (rule(A, B, A),)
        self.check(stage, ("Aa", "Ba", "Aa"), (("Ba", 1),))
        for sequence in (("Ba", "Ba", "Aa"), ("Aa", "Aa", "Aa"), ("Aa", "Ba", "Ba"), ("Aa", "Ba", "Aa", "Aa")):
            self.check(stage, sequence, ())

    def test_the_empty_sequence(self):
        self.check((rule(),), (), ())
        self.check((rule(EMPTY, ANY, EMPTY, "abc"),), (), ())

    def test_random_stages_on_all_short_sequences(self):
        dice = dice_for("stages")
        for _ in range(60):
            stage = random_stage(dice, 6)
            for sequence in sequences(("@a", "Ab", "Ba"), 3) + [("Zz", "Aa", "@b", "Aa", "Bb")]:
                self.assertEqual(stage_output(stage, sequence), stage_told(stage, sequence), (stage, sequence))
                rules = tuple(applying_rule(stage, sequence, place) for place in range(len(sequence)))
                self.assertEqual(trace((stage,), sequence), (rules,))


class Beginnings(unittest.TestCase):
    """Whether each beginning and each end of a sequence matches, asked at once and one by one."""

    def test_random_patterns(self):
        dice = dice_for("beginnings and ends")
        for _ in range(300):
            tree = random_tree(dice, dice.randint(1, 16))
            sequence = random_sequence(dice, ("@a", "Aa", "Ab", "Bb"), dice.randint(0, 8))
            places = range(len(sequence) + 1)
            self.assertEqual(beginnings_that_match(tree, sequence), [matches(tree, sequence[:at]) for at in places])
            self.assertEqual(ends_that_match(tree, sequence), [matches(tree, sequence[at:]) for at in places])

    def test_patterns_whose_ends_hardly_change_from_place_to_place(self):
        sequence = tuple("Aa" if place in (3, 4, 11) else "Ba" for place in range(18))
        for tree in (then(ALL, A, ALL), then(star(B), A, ALL), star(then(star(B), A)), then(star(star(B)), A),
                     no(then(ALL, A, A, ALL)), then(no(then(ALL, A)), ANY, ALL), star(then(no(A), ANY)),
                     star(star(then(B, ANY))), then(either(EMPTY, ALL), B, star(star(ANY)))):
            places = range(len(sequence) + 1)
            self.assertEqual(beginnings_that_match(tree, sequence), [matches(tree, sequence[:at]) for at in places])
            self.assertEqual(ends_that_match(tree, sequence), [matches(tree, sequence[at:]) for at in places])


class Pipelines(unittest.TestCase):
    def test_the_first_example(self):
        self.assertEqual(excerpt(PIPELINE, DOCUMENT), (("Aa", 0), ("Ba", 1), ("Ba", 2)))

    def test_the_example_of_trace(self):
        self.assertEqual(trace(PIPELINE, DOCUMENT), ((0, 1, 1, None),))

    def test_one_stage_of_one_rule(self):
        pipeline = ((rule(target=B, output="$$"),),)
        self.assertEqual(excerpt(pipeline, DOCUMENT), (("Ba", 1), ("Ba", 1), ("Ba", 2), ("Ba", 2)))
        self.assertEqual(trace(pipeline, DOCUMENT), ((None, 0, 0, None),))

    def test_a_later_stage_reads_what_the_stage_before_puts_out(self):
        pipeline = ((rule(target=B, output="a$"),), (rule(before=EMPTY, target=EDITOR), rule(target=B)))
        self.assertEqual(excerpt(pipeline, DOCUMENT), (("@a", 1), ("Ba", 1), ("Ba", 2)))
        self.assertEqual(trace(pipeline, DOCUMENT), ((None, 0, 0, None), (0, 1, None, 1)))

    def test_origins_are_positions_in_the_document(self):
        double = (rule(target=B, output="$b$"),)
        # Of six symbols the third stage keeps those behind the first three.
        late = (rule(before=then(ANY, ANY, ANY, ALL), output="c$"),)
        mark = (rule(target=EDITOR, output="z"), rule(output="$"))
        document = ("Aa", "Ba", "Aa", "Aa", "Bb")
        self.assertEqual(excerpt((double, mark, late), document),
                         (("@c", 4), ("Bb", 4), ("@c", 4), ("@z", 4), ("@c", 4), ("Bb", 4)))
        self.assertEqual(trace((double, mark, late), document),
                         ((None, 0, None, None, 0), (1, 0, 1, 1, 0, 1), (None, None, None, 0, 0, 0)))

    def test_what_is_inserted_keeps_its_origin_through_three_stages(self):
        first = (rule(target=A, output="a"), rule(target=B, output="b$"))
        second = (rule(before=then(ALL, EDITOR), output="$c"), rule(output="$"))
        third = (rule(target=of("@", "c"), output="c$"), rule(after=ALL, target=of("@", "a"), output=""), rule())
        pipeline = (first, second, third)
        document = ("Aa", "Ba", "Bb")
        self.assertEqual(excerpt(pipeline, document), excerpt_told(pipeline, document))
        self.assertEqual(excerpt(pipeline, document),
                         (("@b", 1), ("@c", 1), ("@c", 1), ("Ba", 1), ("@c", 1), ("@c", 1), ("@b", 2), ("Bb", 2),
                          ("@c", 2), ("@c", 2)))

    def test_the_order_of_the_stages(self):
        inserting, erasing = (rule(output="$a"),), (rule(target=EDITOR, output=""), rule())
        self.assertEqual(excerpt((inserting, erasing), ("Aa",)), (("Aa", 0),))
        self.assertEqual(excerpt((erasing, inserting), ("Aa",)), (("Aa", 0), ("@a", 0)))

    def test_nothing_is_left_for_later_stages(self):
        pipeline = ((rule(output=""),), (rule(EMPTY, ANY, EMPTY, "a"),), (rule(output="b"),))
        self.assertEqual(excerpt(pipeline, DOCUMENT), ())
        self.assertEqual(trace(pipeline, DOCUMENT), ((0, 0, 0, 0), (), ()))

    def test_the_empty_document(self):
        for pipeline in (PIPELINE, PIPELINE * 3, ((rule(EMPTY, ANY, EMPTY, "abc"),),)):
            self.assertEqual(excerpt(pipeline, ()), ())
            self.assertEqual(trace(pipeline, ()), ((),) * len(pipeline))

    def test_documents_with_symbols_of_the_editor_and_of_no_alphabet(self):
        document = ("@a", "Zz", "@q", "Ba", "Yb")
        pipeline = ((rule(target=but("Z"), output="$z"),), (rule(after=then(ANY, ALL)),))
        self.assertEqual(excerpt(pipeline, document), (("@a", 0), ("@z", 0), ("@q", 2), ("@z", 2), ("Ba", 3), ("@z", 3),
                                                       ("Yb", 4)))
        self.assertEqual(trace(pipeline, document), ((0, None, 0, 0, 0), (0,) * 7 + (None,)))

    def test_documents_of_100_symbols(self):
        document = ("Aa", "Ba", "Bb", "Ab") * 25
        expected = tuple((symbol, place) for place, symbol in enumerate(document) for _ in range(27))
        tripling = (rule(then(ALL, A, ALL), output="$$$"), rule(no(then(ALL, A, ALL)), output="$$$"))
        self.assertEqual(excerpt((tripling,) * 3, document), expected)
        self.assertEqual([len(rules) for rules in trace((tripling,) * 3, document)], [100, 300, 900])
        self.assertEqual(stage_output((rule(EMPTY), rule(after=EMPTY)), document), (("Aa", 0), ("Ab", 99)))

    def test_random_pipelines(self):
        dice = dice_for("pipelines")
        for _ in range(120):
            pipeline = random_pipeline(dice, 5)
            document = random_sequence(dice, ("@a", "Aa", "Ab", "Ba", "Zz"), dice.randint(0, 4))
            found = excerpt(pipeline, document)
            self.assertEqual(found, excerpt_told(pipeline, document), (pipeline, document))
            self.assertTrue(is_plain(found) and not has_flags(found))
            self.check_trace(pipeline, document)

    def check_trace(self, pipeline, document):
        found = trace(pipeline, document)
        self.assertEqual(len(found), len(pipeline))
        for stage, rules in zip(pipeline, found):
            told = tuple(applying_rule(stage, document, place) for place in range(len(document)))
            self.assertEqual(rules, told)
            document = tuple(symbol for symbol, _ in stage_told(stage, document))


def blocks_told(letters, owners, classes):
    """The blocks by comparing each symbol with the first one of each block."""
    found = []
    for symbol in sorted(holder + letter for holder in "@" + owners for letter in letters):
        for block in found:
            if all((symbol in members(tree)) == (block[0] in members(tree)) for tree in classes):
                block.append(symbol)
                break
        else:
            found.append([symbol])
    return tuple(tuple(block) for block in found)


class Blocks(unittest.TestCase):
    def test_the_example_of_the_interface(self):
        self.assertEqual(blocks("ab", "AB", PIPELINE), (("@a", "@b"), ("Aa", "Ab"), ("Ba", "Bb")))

    def test_no_class_tells_anything_apart(self):
        every = (("@a", "@b", "Aa", "Ab", "Ba", "Bb"),)
        for tree in (ANY, NONE, of("@AB"), of("", "ab"), of("@AB", "abc"), but("@ABC", ""), of("XYZ"), of("A", "xyz")):
            with self.subTest(tree):
                self.assertEqual(blocks("ab", "AB", ((rule(target=tree),),)), every)
                self.assertEqual(blocks("ab", "AB", ((rule(tree, ANY, tree),),)), every)
        self.assertEqual(blocks("ab", "AB", ((rule(EMPTY, NONE, no(EMPTY)),),)), every)

    def test_every_symbol_stands_alone(self):
        pipeline = ((rule(of("A"), of("B"), of("", "a")),),)
        self.assertEqual(blocks("ab", "AB", pipeline), (("@a",), ("@b",), ("Aa",), ("Ab",), ("Ba",), ("Bb",)))
        self.assertEqual(blocks("q", "Z", ((rule(target=of("@")),),)), (("@q",), ("Zq",)))

    def test_empty_holders_and_empty_letters(self):
        self.assertEqual(blocks("ab", "A", ((rule(target=of("", "a")),),)), (("@a", "Aa"), ("@b", "Ab")))
        self.assertEqual(blocks("ab", "A", ((rule(target=of("A", "")),),)), (("@a", "@b"), ("Aa", "Ab")))
        self.assertEqual(blocks("ab", "A", ((rule(target=of("A", "a")),),)), (("@a", "@b", "Ab"), ("Aa",)))

    def test_a_negated_class_tells_the_same_apart(self):
        for holders, letters in (("A", ""), ("", "b"), ("@B", "a")):
            self.assertEqual(blocks("ab", "AB", ((rule(target=of(holders, letters)),),)),
                             blocks("ab", "AB", ((rule(target=but(holders, letters)),),)))

    def test_classes_of_all_rules_and_stages_and_in_all_depths(self):
        deep = star(then(no(either(EMPTY, both(ALL, of("C")))), ANY))
        expected = (("@a", "Aa", "Ba"), ("Ca",))
        for pipeline in (((rule(before=deep),),), ((rule(after=deep),),), ((rule(), rule(), rule(target=of("C"))),),
                         ((rule(),), (rule(),), (rule(), rule(after=deep)))):
            self.assertEqual(blocks("a", "ABC", pipeline), expected)

    def test_outputs_tell_nothing_apart(self):
        self.assertEqual(blocks("ab", "A", ((rule(output="a$b"),),)), (("@a", "@b", "Aa", "Ab"),))

    def test_a_class_counts_even_if_nothing_depends_on_it(self):
        self.assertEqual(blocks("a", "AB", ((rule(NONE, of("A"), ALL),),)), (("@a", "Ba"), ("Aa",)))

    def test_the_order_of_the_blocks(self):
        pipeline = ((rule(target=of("@", "b")), rule(target=of("A", "a"))),)
        self.assertEqual(blocks("ab", "A", pipeline), (("@a", "Ab"), ("@b",), ("Aa",)))

    def test_random_pipelines(self):
        dice = dice_for("blocks")
        for _ in range(60):
            classes = [("class", dice.random() < 0.3, *parts) for parts in
                       [(dice.choice(["", "@", "AC", "BZ"]), dice.choice(["", "a", "bc", "xz"])) for _ in range(3)]]
            pipeline = ((rule(classes[0], ANY, classes[1]),), (rule(target=classes[2]),))
            found = blocks("abc", "ABC", pipeline)
            self.assertEqual(found, blocks_told("abc", "ABC", classes))
            self.assertEqual(sum(len(block) for block in found), 12)

    def test_blocks_keep_what_a_pipeline_cannot_tell_apart(self):
        # Within a block, symbols may be exchanged: the rules that apply stay the same.
        dice = dice_for("symbols of a block")
        for _ in range(40):
            pipeline = random_pipeline(dice, 4)[:1]
            alike = {symbol: block for block in blocks("ab", "AB", pipeline) for symbol in block}
            document = random_sequence(dice, tuple(alike), 6)
            other = tuple(dice.choice(alike[symbol]) for symbol in document)
            self.assertEqual(trace(pipeline, document), trace(pipeline, other))


if __name__ == "__main__":
    unittest.main()
