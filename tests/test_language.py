"""The files of the package keep to the rules for their code, and the interface stands where it must."""

import ast
import unittest

from tests import language

INTERFACE = {
    "errors.py": [
        "ViewError", "InvalidSource", "InvalidProgram", "Fault", "InvalidDocument", "InvalidOperation",
        "InvalidRecording", "UnknownComponent", "UnknownParameter", "InvalidValue", "UnknownLane", "UnknownKey",
        "AnswerGiven", "InvalidCall", "MissingAnswer", "RenderingFailed", "RenderingHeld",
    ],
    "words/tokens.py": ["tokens(source)"],
    "words/reading.py": ["parse_program(source)", "parse_expression(source)"],
    "words/printing.py": ["program_text(program)"],
    "words/showing.py": ["expression_text(expression)", "constant_text(value)", "quoted(text)"],
    "checks/scopes.py": [
        "Scope", "Scope.__contains__(self, name)", "Scope.__iter__(self)", "Scope.__len__(self)",
        "Scope.declare(self, name)", "Scope.allow(self, name)", "Scope.inner(self)",
    ],
    "checks/checking.py": ["Checker", "Checker.check(self)", "Checker.__init__(self, program)", "is_sound(program)"],
    "checks/names.py": ["free_names(expression)"],
    "values/plain.py": ["same(a, b)", "size(value)", "depth(value)", "text_of(value)", "copied(value)"],
    "values/functions.py": ["call_function(name, arguments)"],
    "values/evaluating.py": ["evaluate(expression, environment, owner)"],
    "views/describing.py": ["describe(nodes, environment, owner, slot)", "member_key(value)"],
    "views/kinds.py": [
        "kind_of(description)", "weight(description)", "same_description(a, b)", "same_descriptions(a, b)",
        "keys_differ(descriptions)",
    ],
    "documents/nodes.py": [
        "is_document(document)", "ids_of(document)", "walk(document)", "find_node(document, number)",
        "kids_of(document, parent)",
    ],
    "documents/operations.py": [
        "fault_of(document, operation)", "apply_operation(document, operation)", "apply_all(document, operations)",
    ],
    "documents/rising.py": ["best_row(numbers)"],
    "documents/patches.py": ["kept_ids(old, new)", "patch(old, new)", "is_careful(old, new, operations)"],
    "lanes/schedule.py": [
        "lane_number(name)", "Schedule", "Schedule.SYNC", "Schedule.USUAL", "Schedule.TRANSITION", "Schedule.IDLE",
        "Schedule.PATIENCE", "Schedule.NAMES", "Schedule.__init__(self)", "Schedule.pending", "Schedule.done",
        "Schedule.wake(self, lane, *, now)", "Schedule.is_overdue(self, lane, *, now)",
        "Schedule.next_pass(self, *, now)", "Schedule.portion(self, cost)", "Schedule.give_up(self)",
        "Schedule.end(self, lanes)", "Schedule.clear(self)", "Schedule.__contains__(self, lane)",
    ],
    "passes/cells.py": [
        "Cell", "Cell.__init__(self, name, value)", "Cell.present", "Cell.waiting", "Cell.open_lanes",
        "Cell.send(self, lane, expression, environment)", "Cell.processed(self, lanes, *, owner)", "Cell.copied(self)",
        "Cell.__eq__(self, other)",
    ],
    "passes/instances.py": [
        "Instance", "Instance.__init__(self, form, number, key, *, name=None)", "Instance.all_kids",
        "Instance.shown_kids", "walk(instances)", "find(instances, number)", "parent_of(instances, number)",
        "copied(instances)", "image(instances)",
    ],
    "passes/passing.py": [
        "Pass", "Pass.__init__(self, program, lanes, *, stores, answers, next_id, anew=False)",
        "Pass.run(self, component, values, tree)", "Pass.cost",
    ],
    "commits/performing.py": [
        "Performance", "perform(program, tree, block, *, owner, environment, lane, event=None, budget=500)",
        "perform_act(program, tree, act, arguments, *, lane, event=None, budget=500)",
    ],
    "commits/effects.py": ["effect_order(instances)", "plan(before, behind)"],
    "commits/timers.py": [
        "Timers", "Timers.__init__(self)", "Timers.told", "Timers.next_due(self)", "Timers.fire(self)",
        "Timers.start(self, owner, *, now, ticks, again, lane, environment, block, run=0)",
        "Timers.end_run(self, run)", "Timers.end_owners(self, ids)", "Timers.clear(self)", "Timers.__len__(self)",
    ],
    "events/paths.py": [
        "path_of(document, number)", "is_disabled(document, number)", "attribute_of(document, number, name)",
    ],
    "events/hearing.py": ["hearers(acts, path, event)", "lane_of(event)", "can_prevent(event)"],
    "events/controls.py": [
        "kind_of_control(node)", "Controls", "Controls.__init__(self)", "Controls.__len__(self)",
        "Controls.__contains__(self, number)", "Controls.settle(self, document)", "Controls.shown(self, number)",
        "Controls.show(self, number, value)", "Controls.record_of(self, document, number, event, details)",
        "Controls.fork(self)",
    ],
    "events/gestures.py": [
        "click(root, number)", "enter(root, number, text)", "clear(root, number)", "choose(root, number, value)",
    ],
    "events/rehearsal.py": [
        "Rehearsal", "Rehearsal.__init__(self, document, *, prevented=())",
        "Rehearsal.send_event(self, number, event, details)",
    ],
    "server/writing.py": ["write_tree(nodes)", "plain_text(nodes)"],
    "server/reading.py": ["read_tree(text)"],
    "server/taking.py": ["Comparison", "compare_trees(read, now)"],
    "tools/why.py": ["reasons(component, stores, before, now)", "why(program, before, now)"],
    "tools/calls.py": ["write_call(name, values)", "read_call(text)", "read_recording(texts)"],
    "tools/replacing.py": ["fits(before, now, name)", "pruned(tree, before, now)", "kept_stores(stores, now)"],
    "root/root.py": [
        "Root", "Root.__init__(self, program, component, values, *, answers=())", "Root.controls", "Root.pending",
        "Root.is_held", "Root.last_operations(self)", "Root.store_values(self)", "Root.open_keys(self)",
        "Root.log_lines(self)", "Root.whole_tree(self)", "Root.rendered_ids(self)", "Root.running_timers(self)",
        "Root.work(self, n)", "Root.flush(self)", "Root.advance(self, ticks)",
        "Root.set_cell(self, number, cell, value, lane='usual')",
        "Root.run_handler(self, number, handler, arguments, lane='usual')",
        "Root.set_values(self, values, lane='usual')", "Root.set_store(self, name, value)",
        "Root.answer(self, key, value)", "Root.fail(self, key, message)", "Root.event(self, number, event, details)",
        "Root.click(self, number)", "Root.enter(self, number, text)", "Root.clear(self, number)",
        "Root.choose(self, number, value)", "Root.cells(self, number)", "Root.ids_of_tag(self, tag)", "Root.html(self)",
        "Root.why(self)", "Root.recording(self)", "Root.take_log(self)", "Root.replace(self, program)",
        "Root.unmount(self)",
    ],
    "root/serving.py": [
        "render_text(program, component, values, answers)", "take_over(program, component, values, text, answers)",
    ],
    "root/replaying.py": ["replay(program, texts)"],
}


def heads(tree, ahead=""):
    """Returns the names of the classes, their values and properties, and the functions and methods of a file."""
    found = []
    for node in tree.body:
        if isinstance(node, ast.ClassDef):
            found.append(ahead + node.name)
            found.extend(heads(node, node.name + "."))
        if isinstance(node, ast.Assign) and ahead:
            found.append(ahead + node.targets[0].id)
        if isinstance(node, ast.FunctionDef):
            found.append(ahead + node.name if node.decorator_list else f"{ahead}{node.name}({ast.unparse(node.args)})")
    return found


class Language(unittest.TestCase):
    def test_package_keeps_to_the_rules(self):
        self.assertEqual(language.finds(), [])

    def test_interface_is_defined_in_its_files(self):
        for name, wanted in INTERFACE.items():
            there = heads(ast.parse((language.PACKAGE / name).read_text()))
            for head in wanted:
                with self.subTest(file=name, head=head):
                    self.assertIn(head, there)
