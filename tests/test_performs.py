import itertools
import random
import unittest

from cardwright.parsing import parse
from cardwright.performs import circle, graph_of, performed, ranks

HEAD = "program p . data . files . procedure . main . "


def statements_of(text):
    return parse(HEAD + text)[3][0][1]


def is_circle(graph, vertices):
    return all(vertex in graph[other] for other, vertex in zip(vertices, vertices[1:] + vertices[:1]))


def circles_from(graph, start, path):
    """Yield all circles that begin with a vertex, without a vertex twice."""
    for other in graph[path[-1]]:
        if other == start:
            yield path
        elif other not in path:
            yield from circles_from(graph, start, path + (other,))


def longest_way(graph, start):
    return max((1 + longest_way(graph, other) for other in graph[start]), default=0)


def random_graph(maker, many, upward):
    graph = []
    for vertex in range(many):
        others = range(vertex + 1, many) if upward else range(many)
        graph.append(tuple(other for other in others if maker.random() < 0.3))
    return tuple(graph)


class TestPerformed(unittest.TestCase):
    def check(self, pairs, text):
        self.assertEqual(performed(statements_of(text)), pairs, text)

    def test_511_ways(self):
        self.check([("a", "a"), ("b", "c"), ("d", "d"), ("e", "f"), ("g", "g")],
                   "perform a . perform b thru c until i = 1 . perform d 5 times . perform e thru f n times . perform g varying i from 1 by 1 until i > 2 .")

    def test_511_levels(self):
        self.check([("a", "a"), ("b", "b")], "if i = 1 then perform a . else perform b . end .")
        self.check([("a", "a"), ("b", "b")], "read f at end perform a . bad perform b . end .")
        self.check([("a", "a")], "read f at end stop . bad perform a . end .")
        self.check([("a", "a")], "set i to 1 else perform a . end .")
        self.check([("a", "a")], "divide i by j giving k else perform a . end .")
        self.check([("a", "a"), ("b", "b"), ("c", "c"), ("d", "d"), ("e", "e")],
                   """perform a . if i = 1 then if i = 2 then perform b . end . read f bad set i to 1 else perform c . end . end .
                   else perform d . end . perform e .""")

    def test_511_others(self):
        self.check([], "stop . move a to b . show perform-it . write f . sort a by b . clear a .")
        self.assertEqual(performed(()), [])
        self.check([("a", "a"), ("a", "a")], "perform a . perform a .")

    def test_511_eight_levels(self):
        self.check([("a", "a")], "if i = 1 then " * 7 + "perform a . " + "end . " * 7)


class TestGraph(unittest.TestCase):
    def check(self, graph, text):
        self.assertEqual(graph_of(parse(HEAD + text)[3]), graph, text)

    def test_513_graph(self):
        self.check(((),), "")
        self.check(((1,), ()), "perform b . b .")
        self.check(((1, 2, 3), (3,), (), ()), "perform b thru d . b . perform d . c . d .")
        self.check(((1, 2, 3), (), (), ()), "perform c thru d . perform b . b . c . d .")
        self.check(((1, 2, 3), (), (), ()), "perform b thru c . if 1 = 1 then perform c thru d . end . perform b . perform d . b . c . d .")
        self.check(((), (1, 2), (1,), (0,)), "b . perform c . perform b . c . perform b . d . perform main .")

    def test_513_kinds(self):
        graph = graph_of(parse(HEAD + "perform b . b .")[3])
        self.assertIsInstance(graph, tuple)
        self.assertTrue(all(isinstance(row, tuple) for row in graph))


class TestRanks(unittest.TestCase):
    def test_512_ranks(self):
        self.assertEqual(ranks(()), ())
        self.assertEqual(ranks(((),)), (0,))
        self.assertEqual(ranks(((1, 2), (2,), ())), (2, 1, 0))
        self.assertEqual(ranks(((), (0,), (0, 1), (0, 2))), (0, 1, 2, 3))
        self.assertEqual(ranks(((3,), (), (1, 3), ())), (1, 0, 1, 0))

    def test_512_circles(self):
        self.assertIsNone(ranks(((0,),)))
        self.assertIsNone(ranks(((), (2,), (1,))))
        self.assertIsNone(ranks(((1,), (2,), (1, 2))))

    def test_512_random(self):
        maker = random.Random(5)
        for many in range(1, 8):
            for _ in range(30):
                graph = random_graph(maker, many, True)
                self.assertEqual(ranks(graph), tuple(longest_way(graph, vertex) for vertex in range(many)), graph)
                order = list(range(many))
                maker.shuffle(order)
                mixed = [()] * many
                for vertex in range(many):
                    mixed[order[vertex]] = tuple(sorted(order[other] for other in graph[vertex]))
                self.assertEqual(ranks(tuple(mixed)), tuple(longest_way(mixed, vertex) for vertex in range(many)), mixed)

    def test_512_long_ways(self):
        many = 5000
        down = tuple((vertex + 1,) for vertex in range(many)) + ((),)
        self.assertEqual(ranks(down), tuple(range(many, -1, -1)))
        up = ((),) + tuple((vertex,) for vertex in range(many))
        self.assertEqual(ranks(up), tuple(range(many + 1)))
        # So many ways that none may be followed twice.
        double = tuple((2 * (at // 2) + 2, 2 * (at // 2) + 3) for at in range(200)) + ((), ())
        self.assertEqual(ranks(double)[0], 100)


class TestCircle(unittest.TestCase):
    def test_513_no_circle(self):
        for graph in [(), ((),), ((1,), ()), ((1, 2), (2,), ()), ((), (0,), (0, 1))]:
            self.assertEqual(circle(graph), ())

    def test_513_circles(self):
        self.assertEqual(circle(((0,),)), (0,))
        self.assertEqual(circle(((1,), (1,))), (1,))
        self.assertEqual(circle(((1,), (2,), (1, 2))), (1, 2))
        self.assertEqual(circle(((1,), (2,), (3,), (1,))), (1, 2, 3))
        self.assertEqual(circle(((2,), (3,), (0,), (1,))), (0, 2))
        self.assertEqual(circle(((3,), (1,), (2,), ())), (1,))
        # The shortest one of those that begin at 0.
        self.assertEqual(circle(((1,), (2, 3), (0,), (4,), (0,))), (0, 1, 2))
        self.assertEqual(circle(((1, 3), (2,), (0,), (0, 3))), (0, 3))
        self.assertEqual(circle(((0, 1), (0,))), (0,))

    def test_513_all_small_graphs(self):
        rows = [tuple(at for at in range(3) if bits & 1 << at) for bits in range(8)]
        for graph in itertools.product(rows, repeat=3):
            self.check_circle(graph)

    def test_513_random(self):
        maker = random.Random(6)
        for many in range(1, 9):
            for _ in range(60):
                self.check_circle(random_graph(maker, many, False))

    def check_circle(self, graph):
        found = circle(graph)
        self.assertIsInstance(found, tuple)
        firsts = [at for at in range(len(graph)) if any(circles_from(graph, at, (at,)))]
        if not firsts:
            self.assertEqual(found, (), graph)
            self.assertIsNotNone(ranks(graph))
            return
        self.assertIsNone(ranks(graph))
        self.assertEqual(found[0], firsts[0], graph)
        self.assertEqual(len(set(found)), len(found), graph)
        self.assertTrue(is_circle(graph, found), graph)
        self.assertEqual(len(found), min(len(way) for way in circles_from(graph, firsts[0], (firsts[0],))), graph)

    def test_513_long_circles(self):
        many = 5000
        ring = tuple(((vertex + 1) % many,) for vertex in range(many))
        self.assertEqual(circle(ring), tuple(range(many)))
        tail = tuple((vertex + 1,) for vertex in range(many)) + ((many,),)
        self.assertEqual(circle(tail), (many,))


if __name__ == "__main__":
    unittest.main()
