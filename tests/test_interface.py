"""The interface: each name is defined in its own file, with the parameters that the document tells."""

import ast
import unittest

from tests.test_language import PACKAGE, parsed

TOLD = """
rules: is_rule(order, value) is_rules(order, value) rule_of(order, one, other) rule_of_move(order, move)
rules: rules_of_book(order, book) goes_by(rule, monomial) led_once(rule, monomial)
ends: end_of(order, rules, monomial) path_of(order, rules, monomial) have_one_end(order, rules, one, other)
ends: ends_in_some_way(order, rules, monomial)
overlaps: overlaps(order, rules) is_complete(order, rules)
completion: completed(order, rules)
reduced: reduced(order, rules) is_reduced(order, rules) leads_alike(order, rules, one, other)
reduced: reduced_book(frame, order, book) joined_by_ends(frame, order, book, table, other)
elimination: sum_order(frame) sum_rules(frame) whole_sums(frame, monomial) elimination_rules(frame) rules_by_sums(frame)
saturation: mark_order(frame) mark_rules(frame) saturation_rules(frame) rules_by_lending(frame)
wholebooks: whole_book(frame) whole_rules(frame, order) end_in_lot(frame, order, table)
papers: paper_order(frame) start_rules(frame) sums_of_monomial(frame, monomial) is_paper(frame, book, value)
papers: reason(frame, book, value)
deciding: decided(frame, book) is_whole_book(frame, book) first_parted(frame, book) lacking(frame, book)
deciding: filled_up(frame, book)
classes: are_neighbours(frame, table, other) pieces(frame, sums) needed_at(frame, sums)
leastbooks: needed_sums(frame) least_book(frame) is_least(frame, book) least_count(frame) thinned(frame, book)
alone: is_alone(frame, move) alone_moves(frame) is_only_one(frame)
conformal: is_within(row, other) changes_within(frame, change) between(frame, table, other)
unparted: unparted(frame) plain_unparted(frame, many) is_unparted(frame, move) parted_sum(frame, change)
unparted: is_parted_sum(frame, change, value)
ceilings: lot_under(frame, sums, ceilings) closed_lot_under(frame, book, ceilings, table)
ceilings: whole_under(frame, book, ceilings, sums) whole_under_all(frame, book) straight_road(frame, table, other)
ceilings: is_straight_road(frame, table, other, value)
layered: is_stack(frame, value) stack_sums(frame, stack) layered_frame(frame, many) flat_of(frame, stack)
layered: stacks_with(frame, stack)
kinds: is_pattern(frame, value) is_pattern_book(frame, value) pattern_of(frame, changes) pattern_kind(frame, pattern)
kinds: pattern_ends(frame, pattern) stack_steps(frame, patterns, stack) closed_stacks(frame, patterns, stack)
kinds: stack_road(frame, patterns, stack, other) is_stack_road(frame, patterns, value)
anynumber: unparted_choices(frame) told_number(frame) unparted_patterns(frame) is_unparted_pattern(frame, pattern)
anynumber: whole_for(frame, patterns, many) decided_any(frame, patterns) is_any_paper(frame, patterns, value)
webs: web_of(model) friends(model, position) is_close(model, names) greatest(model) is_fitted(model)
holes: sequence(model) hole(model) is_sequence(model, value) is_hole(model, value)
glued: is_cut(model, value) exchanges(model, cut) cuts(model) formula_book(model)
prices: is_prices(frame, value) cost(frame, table, prices) price_order(frame, prices)
cheapest: cheapest(frame, table, prices) cheapest_in(frame, sums, prices) is_cheapest(frame, table, prices)
cheapest: plain_cheapest(frame, sums, prices) falling_road(frame, table, prices)
bounds: cell_bounds(frame, table, position) plain_bounds(frame, sums, position) told_cells(frame, table) always_told(frame)
"""


class Interface(unittest.TestCase):
    def test_names_and_parameters(self):
        for line in TOLD.strip().split("\n"):
            name, functions = line.split(": ")
            tree = parsed(PACKAGE / f"{name}.py")
            defined = {node.name: node for node in tree.body if isinstance(node, ast.FunctionDef)}
            for told in functions.split(") "):
                word, parameters = told.rstrip(")").split("(")
                arguments = defined[word].args
                self.assertEqual([argument.arg for argument in arguments.args], parameters.split(", "), word)
                self.assertEqual(
                    (arguments.posonlyargs, arguments.kwonlyargs, arguments.vararg, arguments.kwarg, arguments.defaults),
                    ([], [], None, None, []), word)
