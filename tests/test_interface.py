"""The names and arguments of the interface, each defined in its own file."""

import ast
import inspect
import unittest
from importlib import import_module
from pathlib import Path

PACKAGE = Path(__file__).resolve().parent.parent / "ringstays"

FUNCTIONS = {
    "programs": ["Program(calls)", "callee(program, function, path)", "names(program, function, path)",
                 "is_path(program, function, value)", "path_of(program, function, names)", "complete(count)",
                 "ranked(order)"],
    "bodies": ["Bodies(program, inlined=None)", "is_inlined(bodies, function, path)", "open_paths(bodies, function)",
               "self_calls(bodies, function)", "copy_at(bodies, function, path)"],
    "texts": ["write_bodies(bodies)", "read_bodies(text)"],
    "steps": ["inlinable(bodies)", "inline_call(bodies, function, path, *, original=False)", "foldable(bodies)",
              "fold_call(bodies, function, path, *, original=False)"],
    "logs": ["apply_log(bodies, log)", "is_log(bodies, value)", "fold_log(bodies, log)", "copied(bodies, log)",
             "backward(log)"],
    "passes": ["is_pass(value)", "is_pass_list(value)", "open_to(bodies, function, callee)", "apply_pass(bodies, one)",
               "pass_log(bodies, one)", "is_idle(bodies, one)", "run_passes(program, passes)",
               "touch(first, second)"],
    "cuts": ["cut(passes, functions)", "cut_program(program, functions)"],
    "visits": ["visit(bodies, function)", "run_visits(program, order)"],
    "walks": ["moments(passes, function, path)", "is_inlined_at(passes, function, path)",
              "is_open_at(passes, function, path)", "owner(passes, function, path, index)",
              "standing(passes, function, index)", "body_on(passes, function, most)",
              "line(passes, function, callee)"],
    "versions": ["versions(passes)", "equal_lists(one, other)"],
    "links": ["is_link(one, other)", "is_chain(one, other, value)", "chain(one, other)"],
    "separation": ["parting_group(one, other)", "separation(one, other)", "is_separation(one, other, value)",
                   "separating_program(one, other)"],
    "unrolling": ["unrolled_rows(passes)", "equal_unrolled(one, other)", "first_difference(one, other)"],
    "normals": ["is_normal(value)", "normal(passes)"],
    "unlinks": ["is_unroll_link(one, other)", "is_unroll_chain(one, other, value)", "unroll_chain(one, other)"],
    "peeling": ["last_change(bodies, function)", "peel(bodies, function)", "read_row(bodies, function)"],
    "reading": ["passes_from(bodies)", "is_passes_from(bodies, value)"],
    "needs": ["needed(passes, function)", "least_list(passes, function)", "same_body(one, other, function)"],
    "acyclic": ["is_acyclic(program)", "cycle_in(program)"],
    "orders": ["equal_acyclic(one, other, count)", "is_acyclic_separation(one, other, count, value)"],
    "towers": ["tower(count)", "equal_visits(one, other)", "visits_separation(one, other)"],
    "cycles": ["is_cycle(program, value)"],
    "jumps": ["jumps(bodies, cycle)", "jump_cycles(bodies, cycle)", "one_cycle(bodies, cycle)"],
    "conflicts": ["next_conflicts(bodies, function, path)", "conflict_cycle(bodies)"],
    "reaching": ["is_reachable(bodies)", "is_witness(bodies, value)", "witness(bodies)", "folded(bodies)",
                 "fold_out(bodies)", "reach(bodies)"],
    "keeping": ["foldable_kept(bodies, group)", "folded_kept(bodies, group)", "is_reachable_kept(bodies, group)",
                "is_kept_log(bodies, group, value)", "reach_kept(bodies, group)"],
    "groups": ["least_groups(bodies)", "too_small(bodies)", "needed_originals(bodies)", "components(program)",
               "within(bodies, component)"],
    "numbers": ["is_refutation(bodies, group, value)", "refutation(bodies, group)"],
    "releases": ["Releases(program, versions, now, inlined=None)", "start(program, versions)",
                 "open_release(releases, function)", "inline_release(releases, function, path)",
                 "release(releases, function)"],
    "rollbacks": ["undoable(releases)", "undo(releases, step)", "undone(releases)", "is_possible(releases)",
                  "history(releases)", "replay(program, versions, deeds)"],
    "meets": ["is_successor(upper, lower)", "between(lower, upper)", "meet(one, other)"],
    "joins": ["join_defect(parts)", "is_join_defect(parts, value)", "Join(parts)"],
    "causes": ["causes(bodies, log)", "causes_of(bodies, log, function, path)"],
    "skips": ["skipped(bodies, log, indexes)"],
    "edits": ["edit_program(program, edit)", "edited(bodies, edit)", "moved_log(program, log, edit)"],
    "targets": ["blocked_target(bodies, function, paths)", "reach_targets(bodies, function, paths)"],
    "wants": ["ahead(program, wants, group)", "wants_defect(program, wants, group)",
              "meet_wants(program, wants, group)"],
    "below": ["below_defect(bodies)", "log_from_below(bodies)", "is_from_below(bodies, value)"],
    "turns": ["turns(bodies)", "from_turns(program, turns)", "count_logs(bodies)", "apart(one, other)"],
    "wheels": ["wheel_cycles(wheel)", "determinant(wheel)", "wheel_reachable(wheel)", "wheel_log(wheel)",
               "after_wheel(count, log)"],
    "counts": ["count_wheels(count, inlined)", "count_staying(count, inlined, staying)",
               "count_within(limits, bare)"],
    "ties": ["wheel_kept(wheel, group)", "halves(wheel, group)", "smallest_groups(wheel)"],
    "sums": ["is_sum(value)", "worth(given, names, cells)"],
    "source": ["Source(functions)", "program_of(source)"],
    "lines": ["lines(source)", "read_source(lines)"],
    "machine": ["Run(source, function, worths, cells=(0, 0, 0, 0, 0, 0, 0, 0))"],
    "flat": ["flat(source, bodies)"],
    "opened": ["bracket_at(flat, function, position)", "plain_frames(flat, run)"],
    "desk": ["Desk(source)"],
}

METHODS = {"programs": {"Program": ["__eq__", "__init__", "__len__"]},
           "bodies": {"Bodies": ["__eq__", "__init__", "size"]},
           "releases": {"Releases": ["__eq__", "__init__"]},
           "joins": {"Join": ["__init__", "is_inlined", "lands", "bodies"]},
           "source": {"Source": ["__eq__", "__init__", "__len__"]},
           "machine": {"Run": ["__init__", "step", "walk", "to_show", "shown", "cells", "steps", "ended", "too_deep",
                               "worth", "frames"]},
           "flat": {"Flat": ["__init__"]},
           "desk": {"Desk": ["__init__", "source", "bodies", "flat", "inline", "fold", "run_pass", "skip", "undo",
                             "redo", "journal"]}}

ARGUMENTS = {"Bodies.size": "(self)", "Join.is_inlined": "(self, function, path)",
             "Join.lands": "(self, function, path)",
             "Join.bodies": "(self, most)", "Run.walk": "(self, most)", "Run.to_show": "(self, most)",
             "Desk.inline": "(self, function, path, mode='now')", "Desk.fold": "(self, function, path)",
             "Desk.run_pass": "(self, one)", "Desk.skip": "(self, indexes)"}


class Interface(unittest.TestCase):
    def test_names_and_arguments(self):
        for file, listed in FUNCTIONS.items():
            module = import_module(f"ringstays.{file}")
            for told in listed:
                name, arguments = told.split("(", 1)
                self.assertEqual(str(inspect.signature(getattr(module, name))), "(" + arguments, name)

    def test_defined_in_their_files(self):
        for file, listed in FUNCTIONS.items():
            tree = ast.parse((PACKAGE / f"{file}.py").read_text())
            defined = [node.name for node in tree.body if isinstance(node, (ast.FunctionDef, ast.ClassDef))]
            for told in listed:
                self.assertIn(told.split("(")[0], defined)

    def test_methods_stand_in_their_classes(self):
        for file, classes in METHODS.items():
            for name, methods in classes.items():
                held = vars(getattr(import_module(f"ringstays.{file}"), name))
                for method in methods:
                    self.assertIn(method, held)
                    if not method.startswith("__"):
                        told = ARGUMENTS.get(f"{name}.{method}", "(self)")
                        self.assertEqual(str(inspect.signature(held[method])), told)
