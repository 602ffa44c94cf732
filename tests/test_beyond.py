"""No error where the document names none, also somewhat beyond its limits: [5] and the head of the interface."""

import unittest

from excerptcheck.allowed import allowed, first_source
from excerptcheck.cascades import pipeline_machine
from excerptcheck.counting import document_at, documents, index_of, many, next_document
from excerptcheck.deciding import check_certificate, decide
from excerptcheck.differences import difference
from excerptcheck.discretion import alike_but_for, indiscretion
from excerptcheck.errors import InvalidPattern, NoDocument, TooComplex, TooManyNodes
from excerptcheck.graphs import edges_along, graph, graph_of, lengths
from excerptcheck.house import Clearinghouse
from excerptcheck.kinds import kind_machine, of_kind
from excerptcheck.nets import defect, first_above, greatest_weight, net_of, potentials, useful
from excerptcheck.pipelines import blocks, excerpt, stage_output, trace
from excerptcheck.policies import complies, weight
from excerptcheck.printer import show_pattern, show_pipeline
from excerptcheck.ratios import greatest_ratio
from excerptcheck.reader import read_pattern, read_pipeline
from excerptcheck.shares import greatest_share, greatest_sum, holders_of
from excerptcheck.spreads import first_refused, spread, spread_defect
from excerptcheck.streams import Stream, certain
from excerptcheck.twoway import identity
from netoracles import line
from oracles import chain
from samples import ALL, ANY, EVERYTHING, PIPELINE, of, star, then

A, B = of("A"), of("B")
# The tenth symbol from the end decides: 1024 classes.
TENTH = then(ALL, A, *[ANY] * 9)
LONG = ("Aa",) + ("Ba",) * 140
GRAPH = graph(EVERYTHING, PIPELINE)


class TooComplexPatterns(unittest.TestCase):
    """Only what needs the machine of a pattern refuses patterns that are too complex."""

    def test_pipelines(self):
        stage = ((TENTH, ANY, ALL, "a$"), (ALL, A, TENTH, "$"))
        sequence = ("Aa", "Aa") + ("Ba",) * 9
        self.assertEqual(stage_output(stage, sequence), (("Aa", 0), ("@a", 10), ("Ba", 10)))
        self.assertEqual(excerpt((stage,), sequence), stage_output(stage, sequence))
        self.assertEqual(trace((stage,), sequence), ((1,) + (None,) * 9 + (0,),))
        self.assertEqual(blocks("a", "AB", (stage,)), (("@a", "Ba"), ("Aa",)))
        with self.assertRaises(TooComplex):
            pipeline_machine("a", "AB", (stage,))

    def test_kinds_and_policies(self):
        sequence = ("Aa",) + ("Ba",) * 9
        self.assertIs(of_kind(("a", "AB", TENTH), sequence), True)
        self.assertIs(of_kind(("a", "AB", TENTH), sequence + ("Ba",)), False)
        self.assertIs(complies(("matches", TENTH), sequence), True)
        self.assertIs(complies(("matches", TENTH), sequence + ("Ba",)), False)


class Beyond(unittest.TestCase):
    def test_longer_sequences(self):
        self.assertEqual(len(excerpt(PIPELINE, LONG)), 141)
        self.assertEqual(trace(PIPELINE, LONG), ((0,) + (1,) * 140,))
        self.assertIs(of_kind(EVERYTHING, LONG), True)
        self.assertEqual(index_of(EVERYTHING, LONG), 2 ** 140 - 1)
        self.assertEqual(len(edges_along(GRAPH, LONG)), 141)
        self.assertIs(complies(("share", "A", 1, 141), LONG), True)
        self.assertEqual(weight(("share", "A", 1, 141), LONG), 0)

    def test_larger_patterns(self):
        twenty = star(then(*[ANY] * 10))
        self.assertEqual(len(list(documents(("z", "Q", twenty), most=20))), 3)
        self.assertEqual(excerpt((((twenty, ANY, ALL, "$"),),), ("Zz",) * 12), (("Zz", 0), ("Zz", 10)))

    def test_longer_outputs_and_more_stages(self):
        stage = tuple((ALL, of("ABCDE"[at]), ALL, "abcd$") for at in range(5))
        self.assertEqual(len(stage_output(stage, ("Aa", "Ea", "@a"))), 10)
        self.assertEqual(len(excerpt((stage,) * 4, ("Aa", "Ea", "@a"))), 10)
        self.assertEqual(len(pipeline_machine("abcd", "ABC", (stage,) * 4)[0]), 12)

    def test_greater_lengths(self):
        self.assertEqual(many(EVERYTHING, 70), 2 ** 70)
        self.assertEqual(document_at(EVERYTHING, 70, 2 ** 70 - 1), ("Ba",) * 70)
        with self.assertRaises(NoDocument):
            document_at(EVERYTHING, 70, 2 ** 70)
        self.assertEqual(next_document(EVERYTHING, ("Ba",) * 70, most=71), ("Aa",) * 71)
        self.assertIsNone(next_document(EVERYTHING, ("Ba",) * 70, most=60))
        self.assertEqual(len(lengths(GRAPH, most=15)), 16)

    def test_greater_numbers(self):
        net = line(2)
        self.assertEqual(potentials(net, (10 ** 12,)), (10 ** 12, 0))
        self.assertEqual(greatest_weight(net, (-10 ** 12,)), ("bounded", -10 ** 12, ("Aa",)))
        self.assertEqual(first_above(net, (10 ** 12,), 10 ** 12 - 1, most=80), ("Aa",))
        self.assertEqual(defect(net, (0,), -10 ** 12, (10 ** 12, 0)), ("start", 0))
        self.assertEqual(greatest_ratio(net, (5000,), (15000,)), ("met", 1, 3, ("Aa",)))
        self.assertIs(complies(("share", "A", 5000, 10000), ("Aa", "Ba")), True)
        self.assertIs(complies(("sum", (("A", 10 ** 7),), 10 ** 7), ("Aa", "Ba")), True)

    def test_more_points(self):
        self.assertEqual(useful(line(250)), tuple(range(250)))
        self.assertEqual(greatest_weight(line(250), (1,) * 249), ("bounded", 249, ("Aa",) * 249))

    def test_longer_searches(self):
        straight = graph_of((("Aa",), chain(("Aa",), 80), (75,)), identity(("Aa",)))
        nothing = (("Aa",), ((0,),), ())
        self.assertEqual(first_refused(straight, nothing, most=80), ("Aa",) * 75)
        self.assertEqual(first_above(net_of(straight), (1,) * 75, 74, most=80), ("Aa",) * 75)
        self.assertEqual(spread_defect(straight, nothing, spread(straight, nothing)), ("end", 75))

    def test_longer_sources_and_streams(self):
        self.assertEqual(first_source(EVERYTHING, PIPELINE, LONG), LONG)
        acceptor, machine = kind_machine(EVERYTHING), identity(("Aa", "Ba"))
        self.assertEqual(certain(acceptor, machine, LONG), tuple(zip(LONG, range(141))))
        stream = Stream(acceptor, machine)
        for symbol in LONG:
            stream.feed(symbol)
        self.assertEqual((len(stream), len(stream.told)), (141, 141))
        self.assertIs(alike_but_for("A", LONG, ("Ab",) + LONG[1:]), True)

    def test_greater_policies_and_certificates(self):
        great = 10 ** 12
        self.assertEqual(decide(EVERYTHING, PIPELINE, ("share", "A", 5000, 10000)), (True, (0, -5000), None))
        self.assertEqual(decide(EVERYTHING, PIPELINE, ("sum", (("A", great), ("B", -great)), 0)), (True, (0, -great), None))
        self.assertEqual(check_certificate(EVERYTHING, PIPELINE, ("share", "A", 1, 2), (great, 0)), ("start", 0))
        self.assertEqual(check_certificate(EVERYTHING, PIPELINE, ("share", "A", 1, 2), (0,) * 1000), ("count", 2))
        self.assertEqual(greatest_sum(EVERYTHING, PIPELINE, (("A", great), ("B", -great))), ("bounded", 0, ()))
        self.assertEqual(greatest_share(EVERYTHING, PIPELINE, "@ABCDEFGHIJ"), ("met", 1, 1, ("Ba",)))

    def test_larger_alphabets(self):
        kind = ("abcd", "ABCD", ALL)
        copying = (((ALL, ANY, ALL, "$"),),)
        self.assertEqual(holders_of(kind, copying), ("A", "B", "C", "D"))
        self.assertEqual(len(allowed(kind, copying, star(A))[0]), 16)
        self.assertIsNone(difference(kind, copying, copying * 4))
        self.assertIsNone(indiscretion(kind_machine(kind), pipeline_machine("abcd", "ABCD", copying), "A"))

    def test_larger_houses(self):
        house = Clearinghouse("abcd", (("A", 5000), ("B", 1), ("C", 1), ("D", 1)))
        house.execute(("kind", ("or", ANY, ("empty",))))
        house.execute(("pipeline", (((ALL, ANY, ALL, "$$$$"),),)))
        for owner in "ABCD":
            house.execute(("consent", owner, ("share", "ABCDE", 2000, 1)))
        self.assertEqual(house.least_fee(0, 0), 20000)
        self.assertEqual(house.execute(("contract", 0, 0, 2000000)), 0)
        house.execute(("deliver", 0, ("Ad",)))
        self.assertEqual(house.accounts[1:3], (1980000, (("A", 20000), ("B", 0), ("C", 0), ("D", 0))))

    def test_longer_texts(self):
        self.assertEqual(read_pattern("(" * 300 + "a" + ")" * 300), of("", "a"))
        for text, count in (("a" * 2000, 3999), ("!" * 2000 + "a", 2001), ("a" + "*" * 2000, 2001), ("a|" * 1000 + "b", 2001)):
            with self.assertRaises(TooManyNodes) as caught:
                read_pattern(text)
            self.assertEqual(caught.exception.count, count)
        with self.assertRaises(InvalidPattern) as caught:
            read_pattern("(" * 1500)
        self.assertEqual(caught.exception.place, 1500)

    def test_larger_pipelines_as_texts(self):
        texts = ((("a", "b", ".*", "$"),) * 5,) * 5
        self.assertEqual(show_pipeline(read_pipeline(texts)), texts)
        self.assertEqual(show_pattern(then(*[ANY] * 60)), "." * 60)


if __name__ == "__main__":
    unittest.main()
