"""The interface: each name is defined in its own file, with the parameters that the document tells."""

import ast
import unittest

from tests.test_language import PACKAGE, parsed

TOLD = """
rows: is_row(value) added(one, other) product(one, other) taken(row, many) head(row) divisor(row) share(row)
rows: is_share(row, value)
echelon: stepped(rows) rank(rows) leading(rows) is_leading(rows, value) same_span(rows, others) whole_sum(rows, row)
echelon: solved(rows, goal) bar(rows, goal) is_solution(rows, goal, value) is_bar(rows, goal, value)
kernels: is_frame(value) is_change(frame, value) basis(frame) numbers_of(frame, change) change_by(frame, numbers)
tokens: tokens_of(text)
models: is_model(value) places_of(model)
parser: parse_model(text) parse_table(model, text)
printer: model_text(model) table_text(model, table) sums_text(model, sums) cell_name(model, position)
frames: frame_of(model) row_labels(model) cell_of(model, text)
lots: is_table(frame, value) is_sums(frame, value) sums_of(frame, table) lot(frame, sums) is_empty(frame, sums)
counting: lot_count(frame, sums) cell_counts(frame, sums, position) sums_of_total(frame, total)
ranking: table_at(frame, sums, number) number_of(frame, table) least_table(frame, sums) greatest_table(frame, sums)
ranking: next_table(frame, table)
moves: is_move(frame, value) is_book(frame, value) move_of(frame, change) ends(frame, move) book_of(frame, rows)
roads: steps_from(frame, book, table) is_road(frame, book, value) road(frame, book, table, other)
roads: distance(frame, book, table, other) are_joined(frame, book, table, other) moves_of_road(frame, book, road)
closedlots: closed_lot(frame, book, table) is_closed_lot(frame, book, value) parts_of_lot(frame, book, sums)
closedlots: parted(frame, book, sums)
orders: is_order(value) is_monomial(many, value) greater(order, one, other) sorted_by(order, monomials)
rules: is_rule(order, value) is_rules(order, value) rule_of(order, one, other) rule_of_move(order, move)
rules: rules_of_book(order, book) goes_by(rule, monomial) led_once(rule, monomial)
ends: end_of(order, rules, monomial) path_of(order, rules, monomial) have_one_end(order, rules, one, other)
ends: ends_in_some_way(order, rules, monomial)
overlaps: overlaps(order, rules) is_complete(order, rules)
completion: completed(order, rules)
reduced: reduced(order, rules) is_reduced(order, rules) leads_alike(order, rules, one, other)
reduced: reduced_book(frame, order, book) joined_by_ends(frame, order, book, table, other)
elimination: sum_order(frame) sum_rules(frame) whole_sums(frame, monomial) elimination_rules(frame) rules_by_sums(frame)
saturation: mark_order(frame) mark_rules(frame) saturation_rules(frame) rules_by_lending(frame)
wholebooks: whole_book(frame) whole_rules(frame, order) end_in_lot(frame, order, table)
papers: paper_order(frame) start_rules(frame) sums_of_monomial(frame, monomial) is_paper(frame, book, value)
papers: reason(frame, book, value)
deciding: decided(frame, book) is_whole_book(frame, book) first_parted(frame, book) lacking(frame, book)
deciding: filled_up(frame, book)
classes: are_neighbours(frame, table, other) pieces(frame, sums) needed_at(frame, sums)
leastbooks: needed_sums(frame) least_book(frame) is_least(frame, book) least_count(frame) thinned(frame, book)
alone: is_alone(frame, move) alone_moves(frame) is_only_one(frame)
conformal: is_within(row, other) changes_within(frame, change) between(frame, table, other)
unparted: unparted(frame) plain_unparted(frame, many) is_unparted(frame, move) parted_sum(frame, change)
unparted: is_parted_sum(frame, change, value)
ceilings: lot_under(frame, sums, ceilings) closed_lot_under(frame, book, ceilings, table)
ceilings: whole_under(frame, book, ceilings, sums) whole_under_all(frame, book) straight_road(frame, table, other)
ceilings: is_straight_road(frame, table, other, value)
layered: is_stack(frame, value) stack_sums(frame, stack) layered_frame(frame, many) flat_of(frame, stack)
layered: stacks_with(frame, stack)
kinds: is_pattern(frame, value) is_pattern_book(frame, value) pattern_of(frame, changes) pattern_kind(frame, pattern)
kinds: pattern_ends(frame, pattern) stack_steps(frame, patterns, stack) closed_stacks(frame, patterns, stack)
kinds: stack_road(frame, patterns, stack, other) is_stack_road(frame, patterns, value)
anynumber: unparted_choices(frame) told_number(frame) unparted_patterns(frame) is_unparted_pattern(frame, pattern)
anynumber: whole_for(frame, patterns, many) decided_any(frame, patterns) is_any_paper(frame, patterns, value)
webs: web_of(model) friends(model, position) is_close(model, names) greatest(model) is_fitted(model)
holes: sequence(model) hole(model) is_sequence(model, value) is_hole(model, value)
glued: is_cut(model, value) exchanges(model, cut) cuts(model) formula_book(model)
prices: is_prices(frame, value) cost(frame, table, prices) price_order(frame, prices)
cheapest: cheapest(frame, table, prices) cheapest_in(frame, sums, prices) is_cheapest(frame, table, prices)
cheapest: plain_cheapest(frame, sums, prices) falling_road(frame, table, prices)
bounds: cell_bounds(frame, table, position) plain_bounds(frame, sums, position) told_cells(frame, table) always_told(frame)
draws: weight_of(kind, table) chance(kind, table, other) is_draw(book, value)
walks: step_by(frame, book, table, draw, kind) walk(frame, book, table, draws, kind) matrix(frame, book, sums, kind)
shares: weighed_shares(frame, sums, kind) is_shares(frame, sums, value)
shares: shares_behind(frame, book, sums, kind, shares, many) is_kept(frame, book, sums, kind, shares)
shares: part_shares(frame, book, sums, kind) share_at_most(frame, table, kind)
symmetries: is_exchange(value) led(exchange, row) done_after(exchange, after) back_of(exchange) is_symmetry(frame, value)
symmetries: symmetries(frame) group(frame, exchanges)
orbits: orbit_of_table(frame, exchanges, table) orbit_of_move(frame, exchanges, move)
orbits: is_closed_under(frame, exchanges, book) book_under(frame, exchanges, book)
orbits: orbits_of_book(frame, exchanges, book) first_moves(frame, exchanges) is_whole_by_orbits(frame, exchanges, book)
judge: is_claim(value) judged(value) claim_of(frame, book, paper)
records: tree_text(value) check_of(text) record_text(claim) parse_record(text)
commands: is_command(value) is_deed(value) change_text(row)
"""
DESK = """
names(self) do(self, command) do_all(self, *commands) lines(self) twin(self) again(cls, lines)
__init__(self) __len__(self) __getitem__(self, name) __contains__(self, name) __call__(self, command)
"""


class Interface(unittest.TestCase):
    def test_names_and_parameters(self):
        for line in TOLD.strip().split("\n"):
            name, functions = line.split(": ")
            tree = parsed(PACKAGE / f"{name}.py")
            defined = {node.name: node for node in tree.body if isinstance(node, ast.FunctionDef)}
            for told in functions.split(") "):
                word, parameters = told.rstrip(")").split("(")
                arguments = defined[word].args
                self.assertEqual([argument.arg for argument in arguments.args], parameters.split(", "), word)
                self.assertEqual(
                    (arguments.posonlyargs, arguments.kwonlyargs, arguments.vararg, arguments.kwarg, arguments.defaults),
                    ([], [], None, None, []), word)

    def test_methods_of_the_desk(self):
        classes = [node for node in parsed(PACKAGE / "desk.py").body if isinstance(node, ast.ClassDef) and node.name == "Desk"]
        self.assertEqual([one.bases for one in classes], [[]])
        methods = {node.name: node for node in classes[0].body if isinstance(node, ast.FunctionDef)}
        for told in DESK.replace("\n", " ").strip().rstrip(")").split(") "):
            word, parameters = told.strip().split("(")
            self.assertEqual(ast.unparse(methods[word].args), parameters)
            self.assertEqual([ast.unparse(one) for one in methods[word].decorator_list], ["classmethod"] if word == "again" else [])
