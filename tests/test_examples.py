"""Every example of the document, in its order, as it stands there.

A line that begins with "raises" names the error and its attributes. What was imported or assigned in an example is
used in later ones.
"""

import unittest

from excerptcheck import errors

EXAMPLES = r'''
>>> from excerptcheck.reader import read_pattern, read_pipeline
>>> from excerptcheck.pipelines import excerpt
>>> from excerptcheck.deciding import decide, check_certificate
>>> from excerptcheck.shares import greatest_share
>>> everything = ("a", "AB", read_pattern(".*"))
>>> pipeline = read_pipeline((((".*", "A", "B.*", "$"), (".*", "B", ".*", "$")),))
>>> excerpt(pipeline, ("Aa", "Ba", "Ba", "Aa"))
(('Aa', 0), ('Ba', 1), ('Ba', 2))
>>> decide(everything, pipeline, ("share", "A", 1, 2))
(True, (0, -1), None)
>>> decide(everything, pipeline, ("share", "A", 1, 3))
(False, None, ('Aa', 'Ba'))
>>> check_certificate(everything, pipeline, ("share", "A", 1, 2), (0, -1)) is None
True
>>> greatest_share(everything, pipeline, "A")
('met', 1, 2, ('Aa', 'Ba'))

>>> copy = (("Aa", "Ba"), ((0, 0),), ((0, 1), (0, 1)), ((((), ("Aa",)), (("Ba",), ("Ba",))),))

>>> from excerptcheck.symbols import symbols, encoded, decoded
>>> symbols("ab", "A")
('@a', '@b', 'Aa', 'Ab')
>>> encoded(("Aa", "Ab", "@a", "Ba"))
'Aab@aBa'
>>> decoded("AaAb")
('Aa', 'Ab')
>>> decoded("Aa@")
raises InvalidText(place=3)

>>> from excerptcheck.trees import mirrored
>>> from excerptcheck.matching import belongs, matches
>>> belongs("Ab", ("class", True, "A", "a"))
True
>>> mirrored(read_pattern("ab*"))
('then', ('star', ('class', False, '', 'b')), ('class', False, '', 'a'))
>>> matches(read_pattern("!a*&(b|())"), ("@b",))
True
>>> matches(read_pattern("!a*&(b|())"), ())
False

>>> from excerptcheck.acceptors import first_sequences, minimal, parting
>>> minimal((("Aa", "Ba"), ((1, 0), (2, 3), (1, 3), (2, 0)), (1, 2)))
(('Aa', 'Ba'), ((1, 0), (1, 0)), (1,))
>>> first_sequences((("Aa", "Ba"), ((1, 0), (1, 0), (0, 0)), (1,)))
((), ('Aa',), None)
>>> parting((("Aa", "Ba"), ((1, 0), (1, 0)), (1,)), (("Aa", "Ba"), ((1, 0), (1, 1)), (1,)))
('Aa', 'Ba')

>>> from excerptcheck.machines import machine, complexity, alike
>>> machine(("Aa", "Ba"), read_pattern("!(.*AA.*)"))
(('Aa', 'Ba'), ((1, 0), (2, 0), (2, 2)), (0, 1))
>>> complexity(("Aa", "Ba"), read_pattern("A*")) is None
True
>>> alike(("Aa", "Ba"), read_pattern("(A|B)*"), read_pattern(".*A|.*B"))
()

>>> from excerptcheck.twoway import run, left_states, right_states, identity
>>> from excerptcheck.least import least_form, restricted, parting_sequence
>>> from excerptcheck.composing import composed
>>> run(copy, ("Aa", "Aa", "Ba", "Aa"))
(('Aa', 1), ('Ba', 2))
>>> right_states(copy, ("Aa", "Ba"))
(0, 1, 0)
>>> identity(("Aa", "Ba"))
(('Aa', 'Ba'), ((0, 0),), ((0, 0),), (((('Aa',),), (('Ba',),)),))
>>> composed(copy, copy) == copy
True
>>> restricted(copy, ("Aa",))
(('Aa',), ((0,),), ((0,),), ((((),),),))
>>> parting_sequence(copy, identity(("Aa", "Ba")))
(('Aa',), 0)

>>> from excerptcheck.pipelines import stage_output, trace, blocks
>>> trace(pipeline, ("Aa", "Ba", "Ba", "Aa"))
((0, 1, 1, None),)
>>> stage_output(((read_pattern("()"), read_pattern("."), read_pattern(".*"), "b$b"),), ("Aa", "Ba"))
(('@b', 0), ('Aa', 0), ('@b', 0))
>>> blocks("ab", "AB", pipeline)
(('@a', '@b'), ('Aa', 'Ab'), ('Ba', 'Bb'))

>>> from excerptcheck.cascades import stage_machine, pipeline_machine
>>> pipeline_machine("a", "AB", pipeline) == copy
True
>>> stage_machine(("@a", "Aa"), ((read_pattern(".*A"), read_pattern("@"), read_pattern(".*"), "$"),))
(('@a', 'Aa'), ((0, 1), (0, 1)), ((0, 0),), ((((),), ((),)), ((('@a',),), ((),))))

>>> from excerptcheck.kinds import kind_machine, of_kind
>>> from excerptcheck.counting import documents, first_document, next_document, many, document_at, index_of
>>> ends_with_b = ("a", "AB", read_pattern(".*B"))
>>> kind_machine(ends_with_b)
(('Aa', 'Ba'), ((0, 1), (0, 1)), (1,))
>>> list(documents(ends_with_b, most=2))
[('Ba',), ('Aa', 'Ba'), ('Ba', 'Ba')]
>>> next_document(ends_with_b, ("Ba", "Aa"), most=3)
('Ba', 'Ba')
>>> many(ends_with_b, 4)
8
>>> document_at(ends_with_b, 3, 2)
('Ba', 'Aa', 'Ba')
>>> index_of(ends_with_b, ("Ba", "Aa", "Ba"))
2
>>> document_at(ends_with_b, 0, 0)
raises NoDocument(many=0)

>>> from excerptcheck.graphs import graph_of, graph, edges_along, lengths
>>> graph(everything, pipeline) == graph_of(kind_machine(everything), copy)
True
>>> graph(everything, pipeline)
(((0, 0, 0), (0, 0, 1)), (0, 1), (0,), ((0, 'Aa', 0, ()), (0, 'Aa', 1, ('Aa',)), (1, 'Ba', 0, ('Ba',)), (1, 'Ba', 1, ('Ba',))))
>>> edges_along(graph(everything, pipeline), ("Aa", "Ba", "Ba", "Aa"))
(1, 3, 2, 0)
>>> lengths(graph(everything, pipeline), most=2)
(((0, 1),), ((0, 1), (1, 1)), ((0, 1), (1, 1), (2, 2)))

>>> from excerptcheck.nets import net_of, potentials, defect, first_above, greatest_weight
>>> from excerptcheck.ratios import greatest_ratio
>>> net = net_of(graph(everything, pipeline))
>>> net
(2, (0, 1), (0,), ((0, 'Aa', 0), (0, 'Aa', 1), (1, 'Ba', 0), (1, 'Ba', 1)))
>>> potentials(net, (0, 1, -1, -1))
(0, -1)
>>> defect(net, (0, 1, -1, -1), 0, (0, 0))
('edge', 1)
>>> first_above(net, (0, 2, -1, -1), 0, most=60)
('Aa', 'Ba')
>>> greatest_weight(net, (0, 1, -1, -2))
('bounded', 0, ())
>>> greatest_weight(net, (0, 5, -1, -1))[0]
'unbounded'
>>> greatest_ratio(net, (0, 1, 0, 0), (0, 1, 1, 1))
('met', 1, 2, ('Aa', 'Ba'))
>>> greatest_ratio((2, (0,), (1,), ((0, "Ba", 1), (1, "Aa", 1))), (0, 1), (1, 1))[:3]
('neared', 1, 1)

>>> from excerptcheck.spreads import spread, first_refused
>>> lonely = machine(("@a", "Aa", "Ba"), read_pattern("!(.*AA.*)"))
>>> spread(graph(everything, pipeline), lonely)
((0,), (0, 1))
>>> first_refused(graph(everything, pipeline), machine(("@a", "Aa", "Ba"), read_pattern("B*")), most=60)
('Aa', 'Ba')

>>> from excerptcheck.policies import complies, weight
>>> complies(("share", "A", 1, 2), ("Aa", "Ba", "Ba"))
True
>>> weight(("sum", (("@", 7), ("A", -2)), 100), ("Aa", "Aa", "@a", "Ba"))
3
>>> decide(everything, pipeline, ("matches", read_pattern("!(.*AA.*)")))
(True, ((0,), (0, 1)), None)
>>> check_certificate(everything, pipeline, ("share", "A", 1, 2), (0, 0))
('edge', 1)
>>> check_certificate(everything, pipeline, ("share", "A", 1, 2), (0,))
('count', 2)

>>> from excerptcheck.shares import greatest_sum, holders_of
>>> greatest_sum(everything, pipeline, (("A", 1), ("B", -1)))
('bounded', 0, ())
>>> greatest_sum(everything, pipeline, (("A", 5), ("B", -1)))[0]
'unbounded'
>>> greatest_sum(("a", "AB", read_pattern("[^]")), pipeline, ()) is None
True
>>> holders_of(everything, pipeline)
('A', 'B')
>>> greatest_share(("a", "AB", read_pattern("BA*")), read_pipeline((((".*", ".", ".*", "$"),),)), "A")[:3]
('neared', 1, 1)

>>> from excerptcheck.allowed import allowed, first_source
>>> allowed(everything, pipeline, read_pattern("B*"))
(('Aa', 'Ba'), ((1, 0), (1, 2), (2, 2)), (0, 1))
>>> first_source(everything, pipeline, ("Ba", "Aa", "Ba"))
('Ba', 'Aa', 'Ba')
>>> first_source(everything, pipeline, ("Aa",)) is None
True

>>> from excerptcheck.differences import difference
>>> difference(everything, pipeline, read_pipeline((((".*", "B", ".*", "$"), (".*", ".", "B.*", "$")),))) is None
True
>>> difference(everything, pipeline, read_pipeline((((".*", "B", ".*", "$"), (".*", ".", "B", "$")),)))
(('Aa', 'Ba', 'Aa'), 0)

>>> from excerptcheck.streams import Stream, certain
>>> certain(kind_machine(everything), copy, ("Ba", "Aa"))
(('Ba', 0),)
>>> stream = Stream(kind_machine(everything), copy)
>>> stream.feed("Aa")
()
>>> stream.possible
(0, 1)
>>> stream.feed("Ba")
(('Aa', 0), ('Ba', 1))
>>> stream.feed("@a")
raises NotOfKind
>>> stream.finish()
()
>>> list(stream)
[('Aa', 0), ('Ba', 1)]

>>> from excerptcheck.discretion import alike_but_for, indiscretion
>>> alike_but_for("A", ("Aa", "Ba"), ("Ab", "Ba"))
True
>>> indiscretion(kind_machine(everything), copy, "A") is None
True
>>> wide = ("ab", "AB", read_pattern(".*"))
>>> indiscretion(kind_machine(wide), pipeline_machine("ab", "AB", read_pipeline((((".*", "B", "[Aa].*", "$"),),))), "A")
(('Ba', 'Aa'), ('Ba', 'Ab'), 0)

>>> from excerptcheck.house import Clearinghouse
>>> from excerptcheck.journal import replayed
>>> house = Clearinghouse("a", (("A", 5), ("B", 1)))
>>> house.execute(("kind", read_pattern("()|.|..")))
0
>>> house.execute(("pipeline", pipeline))
0
>>> house.execute(("consent", "A", ("share", "A", 1, 2)))
()
>>> house.execute(("consent", "B", ("matches", read_pattern(".*"))))
()
>>> house.execute(("contract", 0, 0, 6))
0
>>> house.execute(("deliver", 0, ("Aa", "Ba")))
(('Aa', 0), ('Ba', 1))
>>> house.execute(("consent", "A", ("share", "A", 1, 3)))
(0,)
>>> house.contract(0)
(0, 0, 6, 1, ('A', ('Aa', 'Ba')))
>>> house.execute(("deliver", 0, ("Ba",)))
raises Suspended(owner="A", document=("Aa", "Ba"))
>>> house.accounts
(6, 0, (('A', 5), ('B', 1)), (('A', 0), ('B', 0)))
>>> house.undo()
True
>>> house.active
(0,)
>>> replayed("a", (("A", 5), ("B", 1)), house.log).accounts == house.accounts
True

>>> from excerptcheck.printer import show_pattern, show_pipeline
>>> read_pattern("a|[BA@a]*")
('or', ('class', False, '', 'a'), ('star', ('class', False, '@AB', 'a')))
>>> show_pattern(("star", ("then", ("not", ("empty",)), ("class", True, "", ""))))
'(!()[^])*'
>>> show_pattern(read_pattern("((a)(b|(c)))"))
'a(b|c)'
>>> read_pattern("(a|)")
raises InvalidPattern(place=3)
>>> read_pipeline(((("a", "ab", "(", "$B"),),))
raises InvalidPipeline(errors=((0, 0, 1, 1), (0, 0, 2, 1), (0, 0, 3, 1)))
>>> show_pipeline(pipeline)
((('.*', 'A', 'B.*', '$'), ('.*', 'B', '.*', '$')),)
'''


def examples():
    """The pairs of a call and the line that stands behind it, "" if there is none."""
    found = []
    for line in EXAMPLES.split("\n"):
        if line.startswith(">>> "):
            found.append([line[4:], ""])
        elif line:
            found[-1][1] += line
    return found


class Examples(unittest.TestCase):
    def test_every_example(self):
        names = {}
        done = 0
        for call, expected in examples():
            with self.subTest(call):
                if expected == "":
                    exec(call, names)
                elif expected.startswith("raises "):
                    self.check_error(call, expected[7:], names)
                else:
                    self.assertEqual(repr(eval(call, names)), expected)
                done += 1
        self.assertEqual(done, 133)

    def check_error(self, call, expected, names):
        name, _, attributes = expected.partition("(")
        with self.assertRaises(getattr(errors, name)) as caught:
            eval(call, names)
        for word, value in eval("dict(" + (attributes or ")")).items():
            self.assertEqual(getattr(caught.exception, word), value)


if __name__ == "__main__":
    unittest.main()
