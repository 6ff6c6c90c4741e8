"""The names, parameters and defaults of the interface, and the conventions of [2] that hold for every module."""

import importlib
import inspect
import unittest

FUNCTIONS = {
    "words": ["is_name(value)", "is_kind(value)", "is_plain(value)", "is_number(value, least, most)", "list_name(at)"],
    "ratios": ["is_fraction(value)", "ratio(over, under=1)", "plus(one, other)", "minus(one, other)",
               "times(one, other)", "divided(one, other)", "sign(one)", "is_less(one, other)", "floor_of(one)",
               "total(*fractions)"],
    "vectors": ["is_vector(value, directions)", "is_matrix(value, directions)", "zero(directions)",
                "unit(directions, at)", "identity(directions)", "vector_plus(one, other)", "vector_minus(one, other)",
                "vector_times(vector, number)", "dot(one, other)", "led(vector, matrix)", "matrix_times(one, other)",
                "determinant(matrix)", "is_unimodular(value, directions)", "unimodular_inverse(matrix)",
                "power(matrix, times)", "order_of(matrix)"],
    "points": ["is_point(value, directions)", "point_of(vector)", "table_of(matrix)", "point_plus(one, other)",
               "point_minus(one, other)", "point_times(point, fraction)", "point_dot(one, other)",
               "carried(point, table)", "table_times(one, other)", "table_determinant(table)", "table_inverse(table)",
               "part(point)", "whole(point)", "whole_matrix(table)", "common(points)", "solved(rows, results)"],
    "lattices": ["hermite(vectors, width)", "hermite_table(vectors, width)", "sublattices(directions, index)"],
    "books": ["standard(tie)", "turned(tie)"],
    "spots": ["is_spot(book, value)", "shifted(spot, vector)", "neighbours(book, spot)", "are_joined(book, one, other)",
              "shells(book, spot, depth)", "distance(book, one, other, *, most=8)"],
    "classes": ["classes(book)", "path_between(book, one, other)", "path_sum(book, path)", "is_path(book, value)",
                "rounds_lattice(book, name)", "place_offset(book, one, other)", "mark(book, spot)",
                "hang_together(book, one, other)", "pieces(book)", "is_whole(book)", "check_whole(book)"],
    "routes": ["route(book, one, other)", "is_route(book, one, other, value)", "route_length(route)",
               "backwards(route)"],
    "resting": ["rest(book)", "is_rest(book, value)", "excess(book, points)", "resting_point(book, spot)",
                "step(book, tie)", "spot_at(book, point)"],
    "shapes": ["pull_table(book)", "shape(book)", "product(book, one, other)", "square(book, point)",
               "tie_squares(book)", "longest(book)"],
    "flows": ["calm_flow(book, drift)", "is_flow(book, value)", "is_balanced(book, flow)", "drift(book, flow)",
              "work(book, flow)", "round_flow(book, path)"],
    "steadiness": ["clash(book)", "is_steady(book)", "check_steady(book)", "dead_ends(book)", "loose(book)",
                   "twins(book)"],
    "settling": ["peeled(book)", "folded(book)", "settled(book)", "is_readable(value)", "restored(book)"],
    "trials": ["trial(one, other, table, point)", "pictures(one, other, table, point)"],
    "leastbooks": ["hidden_shifts(book)", "candidates(book)", "is_least(book)", "check_least(book)"],
    "frames": ["steps(book)", "measure(book, frame)", "is_frame(book, value)", "least_frames(book)"],
    "samenesses": ["beginnings(one, other)", "motions(one, other)", "is_sameness(one, other, value)",
                   "verdict(one, other)", "is_verdict(one, other, value)", "same(one, other, *, kinds=True)"],
    "keys": ["portrait(book, name, frame)", "key(book)", "settled_key(book)"],
    "turns": ["turns(book)", "standard_motion(book, motion)", "mirrors(book)", "is_handed(book)", "place_orbits(book)",
              "tie_orbits(book)", "holders(book, name)", "offset_point(book, motion)", "still_point(book, motion)"],
    "far": ["is_simple_round(book, value)", "simple_rounds(book)", "norm(book, vector)", "far_paper(book, vector)",
            "is_far_paper(book, vector, value)", "period(paper)", "far_route(book, name, paper, times)",
            "least_distance(book, paper, one, other)"],
    "rings": ["ring_number(book, tie, *, most=8)", "ring_numbers(book, *, most=8)"],
    "colours": ["colouring(book)", "odd_route(book)", "colour_of(book, spot)"],
    "strikes": ["struck(book, ties)", "weakest(book, *, most=2)"],
    "making": ["crossed(one, other)", "split(book)", "clothed(book)"],
    "papers": ["is_right(books, paper)"],
    "benchtexts": ["write_bench(bench)", "read_bench(text)"],
}
CLASSES = {
    ("lattices", "Lattice"): ["__init__(self, directions, vectors=())", "basis(self)", "remainder(self, vector)",
                              "numbers(self, vector)", "remainders(self)", "led(self, matrix)"],
    ("books", "Book"): ["__init__(self, directions, places, ties=())", "places(self)", "names(self)", "ties(self)",
                        "kind(self, name)", "degree(self, name)", "leaving(self, name)", "has_tie(self, value)",
                        "with_tie(self, tie)", "without(self, *ties)", "with_place(self, name, kind='node')",
                        "without_place(self, name)", "with_kind(self, name, kind)", "in_one_kind(self, kind='node')",
                        "text(self)"],
    ("motions", "Motion"): ["__init__(self, matrix, pictures)", "matrix(self)", "pictures(self)", "lead(self, spot)",
                            "fits(self, book)", "carry(self, book)", "repeated(self, times)"],
    ("ownbooks", "OwnBook"): ["__init__(self, book, name)", "to_own(self, spot)", "to_outer(self, spot)"],
    ("leastbooks", "LeastBook"): ["__init__(self, book)", "basis(self)", "to_least(self, spot)",
                                  "to_outer(self, spot)"],
    ("coarsebooks", "CoarseBook"): ["__init__(self, book, lattice)", "to_coarse(self, spot)", "to_outer(self, spot)",
                                    "coarse_motion(self, vector)"],
    ("samenesses", "Sameness"): ["__init__(self, one, other, motion)", "lead(self, spot)", "back(self, spot)",
                                 "affine(self)", "inverse(self)"],
    ("nets", "Net"): ["__init__(self, book, *, label='')", "is_whole(self)", "is_steady(self)", "relabel(self, label)",
                      "add_tie(self, tie)", "strike(self, tie)", "add_place(self, name, kind='node')",
                      "remove_place(self, name)", "paint(self, name, kind)", "retell(self, motion)",
                      "coarsen(self, lattice)", "reduce(self)", "settle(self)", "rest(self)", "key(self)", "turns(self)",
                      "twin(self)"],
    ("bench", "Bench"): ["__init__(self)", "do(self, *deeds)", "undo(self)", "redo(self)", "history(self)", "names(self)",
                         "net(self, name)", "shelf(self)", "journal(self)", "tried(self, *deeds)",
                         "paper(self, word, *names)", "far_paper(self, name, vector)", "holds(self, paper)", "text(self)",
                         "say(self, line)", "__call__(self, line)", "log(self)", "twin(self)"],
}
SPECIAL = {"Lattice": ["__contains__", "__add__", "__and__", "__eq__", "__len__", "__bool__", "__repr__"],
           "Book": ["__contains__", "__eq__", "__len__", "__bool__", "__repr__", "__str__"],
           "Motion": ["__mul__", "__invert__", "__eq__", "__repr__"],
           "OwnBook": ["__len__", "__repr__"], "LeastBook": ["__len__", "__repr__"],
           "CoarseBook": ["__len__", "__repr__"], "Sameness": ["__eq__", "__repr__"],
           "Net": ["__len__", "__bool__", "__repr__"],
           "Bench": ["__contains__", "__eq__", "__len__", "__bool__", "__repr__"]}
PROPERTIES = {("motions", "Motion"): [("determinant", False)],
              ("nets", "Net"): [("present", False), ("label", True), ("changes", False)],
              ("bench", "Bench"): [("busy", False)]}
STATIC = {("books", "Book"): ["read(text)"], ("motions", "Motion"): ["staying(book)", "shifting(book, vector)"]}


def name_of(text):
    return text.partition("(")[0]


class InterfaceTest(unittest.TestCase):
    def test_functions(self):
        for module_name, texts in FUNCTIONS.items():
            module = importlib.import_module(f"endlessnets.{module_name}")
            for text in texts:
                function = getattr(module, name_of(text))
                self.assertEqual(f"{name_of(text)}{inspect.signature(function)}", text)
                self.assertEqual(function.__module__, f"endlessnets.{module_name}")

    def test_classes(self):
        for (module_name, class_name), texts in CLASSES.items():
            module = importlib.import_module(f"endlessnets.{module_name}")
            found = getattr(module, class_name)
            self.assertEqual(found.__module__, f"endlessnets.{module_name}")
            for text in texts:
                self.assertEqual(f"{name_of(text)}{inspect.signature(vars(found)[name_of(text)])}", text)
            for name in SPECIAL[class_name]:
                self.assertIn(name, vars(found))

    def test_static_methods(self):
        for (module_name, class_name), texts in STATIC.items():
            found = getattr(importlib.import_module(f"endlessnets.{module_name}"), class_name)
            for text in texts:
                self.assertIsInstance(vars(found)[name_of(text)], staticmethod)
                self.assertEqual(f"{name_of(text)}{inspect.signature(getattr(found, name_of(text)))}", text)

    def test_properties(self):
        for (module_name, class_name), properties in PROPERTIES.items():
            found = vars(getattr(importlib.import_module(f"endlessnets.{module_name}"), class_name))
            for name, assigned in properties:
                self.assertIsInstance(found[name], property)
                self.assertEqual(found[name].fset is not None, assigned)

    def test_generators(self):
        for module_name, name in (("lattices", "sublattices"), ("spots", "shells"), ("samenesses", "beginnings")):
            module = importlib.import_module(f"endlessnets.{module_name}")
            self.assertTrue(inspect.isgeneratorfunction(getattr(module, name)))


if __name__ == "__main__":
    unittest.main()
