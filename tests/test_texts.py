import unittest

import helper
from helper import FIVE, HOUSE
from perfectgraphs.errors import InvalidLine, InvalidSign
from perfectgraphs.texts import from_graph6, graph6, print_graph, read_graph

NO_STRINGS = [value for value in helper.ANY_VALUES if not isinstance(value, str)] + [b"vertices 0\n", ["vertices 0\n"]]
OF_ALL_SIZES = helper.small_graphs() + helper.extreme_graphs() + helper.odd_rounds_and_kin() + helper.even_rounds()


class Session(unittest.TestCase):
    def test_answers(self):
        text = "# a house\nvertices 5\ncycle 0 1 2 3\n clique 1 2 4 # the roof\n"
        self.assertEqual(
            [read_graph(text) == HOUSE, print_graph((3, ((0, 2),))), read_graph("vertices 0\n")],
            [True, "vertices 3\nedge 0 2\n", (0, ())])
        self.assertEqual(
            [graph6(HOUSE), graph6(FIVE), graph6((0, ())), from_graph6("DlW") == HOUSE, from_graph6("@")],
            ["DlW", "Dhc", "?", True, (1, ())])

    def test_errors(self):
        with self.assertRaises(InvalidLine) as caught:
            read_graph("vertices 3\nedge 0 3\n")
        self.assertEqual(caught.exception.index, 1)
        with self.assertRaises(InvalidLine) as caught:
            read_graph("vertices 3\nedge 0 2")
        self.assertEqual(caught.exception.index, 1)
        with self.assertRaises(InvalidSign) as caught:
            from_graph6("DlX")
        self.assertEqual(caught.exception.index, 2)


class ReadGraph(unittest.TestCase):
    def check_read(self, text, graph):
        self.assertEqual(read_graph(text), graph, text)

    def test_each_number_of_vertices(self):
        for many in range(10):
            self.check_read(f"vertices {many}\n", (many, ()))

    def test_each_kind_of_line(self):
        for line, edges in (
            ("edge 0 1", [(0, 1)]), ("edge 8 3", [(3, 8)]), ("path 2 1", [(1, 2)]),
            ("path 4 0 3 8", [(0, 4), (0, 3), (3, 8)]), ("cycle 2 1 0", [(1, 2), (0, 1), (0, 2)]),
            ("cycle 5 0 3 1", [(0, 5), (0, 3), (1, 3), (1, 5)]), ("clique 3 1", [(1, 3)]),
            ("clique 7 2 5 0", [(2, 7), (5, 7), (0, 7), (2, 5), (0, 2), (0, 5)]),
            ("path 0 1 2 3 4 5 6 7 8", [(at, at + 1) for at in range(8)]),
            ("cycle 0 1 2 3 4 5 6 7 8", helper.round_of(9)[1]), ("clique 8 7 6 5 4 3 2 1 0", helper.all_pairs(9)),
        ):
            self.check_read("vertices 9\n" + line + "\n", helper.graph_with(9, edges))

    def test_edges_told_again(self):
        self.check_read("vertices 4\nedge 0 1\nedge 1 0\nedge 0 1\ncycle 0 1 2\npath 2 1 3\nclique 0 1 2\n",
                        (4, ((0, 1), (0, 2), (1, 2), (1, 3))))

    def test_remarks_blanks_and_lines_without_words(self):
        self.check_read("\n   \n# vertices 9\n  vertices   3  # of three\n\n#\n  #edge 0 1\n edge  0   2#edge 0 1\n   \n",
                        (3, ((0, 2),)))
        self.check_read("vertices 2# # #\nedge 0 1 #\tany signs, \r \u20ac\n", (2, ((0, 1),)))

    def test_by_name(self):
        self.assertEqual(read_graph(text="vertices 1\n"), (1, ()))

    def test_four_thousand_signs(self):
        longest = "vertices 2\nedge 0 1\n" + "#" * (4000 - 21) + "\n"
        self.assertEqual(len(longest), 4000)
        self.check_read(longest, (2, ((0, 1),)))
        self.check_read("vertices 2\n" + "\n" * 3989, (2, ()))


class ReadGraphRefuses(unittest.TestCase):
    def check_wrong(self, text, index):
        with self.assertRaises(InvalidLine, msg=repr(text)) as caught:
            read_graph(text)
        self.assertEqual((type(caught.exception.index), caught.exception.index), (type(index), index), repr(text))

    def test_no_string(self):
        for value in NO_STRINGS:
            self.check_wrong(value, None)

    def test_too_many_signs(self):
        self.check_wrong("vertices 2\nedge 0 1\n" + "#" * (4001 - 21) + "\n", None)
        self.check_wrong("x" * 4001, None)
        self.check_wrong("x" * 4000, 0)
        self.check_wrong("\n" * 4000, 4000)
        self.check_wrong("\n" * 4001, None)

    def test_wrong_lines_behind_the_first(self):
        for line in (
            "edge", "edge 0", "edge 0 1 2", "edge 0 0", "edge 1 3", "edge -1 0", "edge 0 9", "edge 00 1", "edge 0 01",
            "edge 0,1", "edge 01", "edge 0 1.", "edge 0 +1", "edge\t0 1", "edge 0\t1", "edge 0 1\t", "edge 0 1\r",
            "\tedge 0 1", "edge 0 x", "edge 0 \u0661", "edge 0 \u00b9", "edge\u00a00 1", "edge 0 \uff11", "edge#0 1",
            "Edge 0 1", "EDGE 0 1", "edges 0 1", "arc 0 1", "0 1", "path", "path 0", "path 0 1 0", "path 0 1 1",
            "path 0 1 3", "path 0 x 1", "cycle", "cycle 0", "cycle 0 1", "cycle 0 1 0", "cycle 0 1 2 0", "cycle 0 1 3",
            "cycle 0 1 2 3", "clique", "clique 0", "clique 0 0", "clique 0 1 1", "clique 0 1 3", "clique 0 1 2 3",
            "vertices 3", "vertices 4", "vertices", "hole 0 1 2 3", "x", "\\", "edge 0 1 ;", "edge 0 1 ; edge 0 2",
            "edge path 0 1", "edge 0 # 1", "\x0b", "\x0c", "\x85", "edge 0 1\x0c", "path 0 1\u20282",
        ):
            self.check_wrong("vertices 3\n" + line + "\n", 1)
            self.check_wrong("#\n\nvertices 3\nedge 0 1\n \n" + line + "\nwrong\n", 5)

    def test_wrong_first_lines(self):
        for line in (
            "vertices", "vertices 10", "vertices 00", "vertices 03", "vertices -1", "vertices 3 3", "vertices x",
            "Vertices 3", "vertices\t3", "vertices 3\t", "vertices3", "3 vertices", "3", "edge 0 1", "path 0 1",
            "cycle 0 1 2", "clique 0 1", "vertices 3 edge 0 1", "vertices \u0663", "vertices \u00b3", "vertices 3\r",
            "vertex 3", "\ufeffvertices 3", "vertices 3.", "vertices#3",
        ):
            self.check_wrong(line + "\nvertices 3\n", 0)
            self.check_wrong("\n# none\n  \n" + line + "\nvertices 3\n", 3)

    def test_vertices_once_alone(self):
        self.check_wrong("vertices 3\nedge 0 1\nvertices 3\n", 2)
        self.check_wrong("edge 0 1\nvertices 3\n", 0)
        self.check_wrong("vertices 0\nedge 0 1\n", 1)
        self.check_wrong("vertices 1\nedge 0 1\n", 1)

    def test_no_line_feed_at_the_end(self):
        for tail in ("edge 0 1", " ", "#", "# remark", "\t", "\r", "wrong", "vertices 3"):
            self.check_wrong("vertices 3\n" + tail, 1)
            self.check_wrong("vertices 3\n\nedge 0 1\n" + tail, 3)
            self.check_wrong(tail, 0)
        self.check_wrong("vertices 3", 0)

    def test_the_first_wrong_line_is_told(self):
        self.check_wrong("vertices 3\nedge 0 3\nedge 0 3\nedge", 1)
        self.check_wrong("\nedge 0 1\nvertices 3", 1)

    def test_no_line_with_words(self):
        for text, index in (("", 0), ("\n", 1), ("\n\n", 2), (" \n# a\n   # b\n", 3), ("#vertices 3\n", 1)):
            self.check_wrong(text, index)


class PrintGraph(unittest.TestCase):
    def test_lines(self):
        self.assertEqual(print_graph((0, ())), "vertices 0\n")
        self.assertEqual(print_graph(graph=HOUSE),
                         "vertices 5\nedge 0 1\nedge 0 3\nedge 1 2\nedge 1 4\nedge 2 3\nedge 2 4\n")

    def test_read_back(self):
        for graph in OF_ALL_SIZES:
            self.assertEqual(read_graph(print_graph(graph)), graph)


def six_by_hand(graph):
    """The graph6 text by McKay's words, of characters and numerals."""
    many, edges = graph
    bits = "".join("01"[(one, other) in edges] for other in range(many) for one in range(other))
    bits += "0" * (-len(bits) % 6)
    return chr(many + 63) + "".join(chr(63 + int(bits[at:at + 6], 2)) for at in range(0, len(bits), 6))


def is_beginning(text):
    """Whether some graph6 text of up to 9 vertices begins with this one."""
    if text == "":
        return True
    many = ord(text[0]) - 63
    if not 0 <= many <= 9:
        return False
    size = many * (many - 1) // 2
    if any(not 63 <= ord(sign) <= 126 for sign in text[1:]):
        return False
    bits = "".join(f"{ord(sign) - 63:06b}" for sign in text[1:])
    return len(text) - 1 <= (size + 5) // 6 and "1" not in bits[size:]


def longest_beginning(text):
    return max(size for size in range(len(text) + 1) if all(is_beginning(text[:at]) for at in range(size + 1)))


class Graph6(unittest.TestCase):
    def test_texts_told_elsewhere(self):
        for graph, text in (
            ((5, ((0, 2), (0, 4), (1, 3), (3, 4))), "DQc"), ((1, ()), "@"), ((2, ()), "A?"), ((2, ((0, 1),)), "A_"),
            ((3, ((0, 1), (0, 2), (1, 2))), "Bw"), (helper.opposite((5, ())), "D~{"), ((9, ()), "H??????"),
            (helper.opposite((9, ())), "H~~~~~~"), ((4, ((0, 1), (1, 2), (2, 3))), "Ch"),
        ):
            self.assertEqual(graph6(graph), text)
            self.assertEqual(from_graph6(text), graph)
            self.assertEqual(from_graph6(text=graph6(graph=graph)), graph)

    def test_by_hand_and_read_back(self):
        for graph in OF_ALL_SIZES + helper.all_graphs(5) + helper.scattered(8, 50) + helper.scattered(9, 50):
            text = graph6(graph)
            self.assertEqual(text, six_by_hand(graph))
            self.assertEqual(from_graph6(text), graph)


class FromGraph6Refuses(unittest.TestCase):
    def check_wrong(self, text, index):
        with self.assertRaises(InvalidSign, msg=repr(text)) as caught:
            from_graph6(text)
        self.assertEqual((type(caught.exception.index), caught.exception.index), (type(index), index), repr(text))

    def check_text(self, text):
        """Reads a text that is the graph6 text of a graph, refuses another at the sign that is wrong."""
        index = longest_beginning(text)
        try:
            graph = from_graph6(text)
        except InvalidSign as error:
            self.assertEqual(error.index, index, repr(text))
            self.assertTrue(index < len(text) or not self.is_whole(text), repr(text))
        else:
            self.assertEqual(index, len(text), repr(text))
            self.assertEqual(graph6(graph), text)

    def is_whole(self, text):
        many = ord(text[0]) - 63 if text else 0
        return is_beginning(text) and len(text) == 1 + (many * (many - 1) // 2 + 5) // 6

    def test_no_string(self):
        for value in NO_STRINGS:
            self.check_wrong(value, None)

    def test_told_wrong_ones(self):
        for text, index in (
            ("", 0), ("DlX", 2), ("D", 1), ("Dl", 2), ("DlW?", 3), ("DlWW", 3), ("??", 1), ("@?", 1), ("@@", 1),
            ("A", 1), ("A`", 1), ("A@", 1), ("A??", 2), ("J", 0), ("I???????", 0), ("~", 0), ("~?@", 0), (">", 0),
            ("\x7f", 0), ("D\x7fW", 1), ("D>W", 1), ("Dl>", 2), ("Dl\x7f", 2), ("Dl W", 2), ("DlW\n", 3), ("\n", 0),
            (" DlW", 0), (">>graph6<<DlW", 0), ("D\u20acW", 1), ("H~~~~~", 6), ("H~~~~~~~", 7), ("H", 1), ("B@", 1),
            ("Bx", 1), ("G", 1), ("G????@", 5), ("G????A", 5), ("G????C?", 6), ("F???", 4), ("F???@", 4), ("E??@", 3), ("I", 0),
        ):
            self.check_wrong(text, index)

    def test_the_search_itself_on_all_texts_of_up_to_four_vertices(self):
        texts = [six_by_hand(graph) for graph in helper.small_graphs()]
        beginnings = {text[:size] for text in texts for size in range(len(text) + 1)}
        for first in "?@ABC":
            for second in [chr(code) for code in range(60, 130)]:
                self.assertEqual(is_beginning(first + second), first + second in beginnings)

    def test_every_sign_changed_left_out_or_put_in(self):
        signs = [chr(code) for code in range(58, 130)] + ["\n", " ", "\u00bf", "\u20ac"]
        graphs = helper.extreme_graphs() + [HOUSE, FIVE] + helper.scattered(7, 2) + helper.scattered(9, 2)
        for graph in graphs:
            text = graph6(graph)
            for at in range(len(text) + 1):
                self.check_text(text[:at])
                self.check_text(text[:at] + text[at + 1:])
                for sign in signs:
                    self.check_text(text[:at] + sign + text[at:])
                    self.check_text(text[:at] + sign + text[at + 1:])

    def test_bits_behind_the_last_pair(self):
        for many in range(2, 10):
            text = graph6((many, ()))
            spare = -(many * (many - 1) // 2) % 6
            for last in range(64):
                changed = text[:-1] + chr(63 + last)
                if last % 2 ** spare:
                    self.check_wrong(changed, len(text) - 1)
                else:
                    self.assertEqual(graph6(from_graph6(changed)), changed)


if __name__ == "__main__":
    unittest.main()
