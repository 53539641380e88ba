"""Looks whether what the interface lists stands where it must: names, arguments, and methods in the classes themselves."""

import ast
import os
import unittest

PACKAGE = os.path.join(os.path.dirname(os.path.dirname(os.path.abspath(__file__))), "oneheap")

SOURCE = ["thing(number)", "numbers(kind)", "referrers(number, kind, field)", "alike(kind, names, amounts)"]
FILES = {
    "words/tokens.py": {"Token(role, text, place)": [], "tokens(text, signs, longest)": None, "quoted(text)": None},
    "schemas/sorts.py": {
        "IntSort(low, high)": ["holds(value)", "written()", "__eq__(other)"],
        "TextSort(longest, without=None)": ["holds(value)", "written()", "__eq__(other)"],
        "ChoiceSort(choices)": ["holds(value)", "written()", "__eq__(other)"],
        "RefSort(kinds, rule)": ["holds(value)", "written()", "__eq__(other)"],
        "ListSort(kinds)": ["holds(value)", "written()", "__eq__(other)"],
        "is_link(shape)": None, "is_list(shape)": None, "is_reference(shape)": None, "blank(shape)": None,
    },
    "schemas/schema.py": {
        "Field(name, shape, needed=False)": ["written()"],
        "Kind(name, fields, key_rows)": ["field_of(name)", "names()", "written()"],
        "Schema(kinds)": ["kind_of(name)", "field_of(kind, name)", "names()", "written()"],
        "constraints_of(kind)": None,
    },
    "schemas/reading.py": {"read_schema(text)": None, "write_schema(schema)": None},
    "steps/step.py": {
        "Step(lines, elder, younger)": ["written()", "young_tie(kind, field)", "elder_tie(kind, field)", "young_kin(kind)",
                                        "elder_kin(kind)", "carries()"],
        "read_step(schema, text)": None, "write_step(step)": None,
    },
    "steps/ways.py": {"Form(terms)": []},
    "queries/reading.py": {"read_query(schema, text)": None},
    "queries/writing.py": {"write_query(query)": None},
    "views/carry.py": {
        "young_thing(step, thing, old, touched)": None, "elder_thing(step, thing, old, touched)": None,
        "first_thing(step, thing)": None, "first_elder_thing(step, thing)": None,
    },
    "views/sources.py": {"nearest_source(forms, names, bounds, made, old)": None},
    "views/losses.py": {"losing(step)": None},
    "objects/thing.py": {
        "Thing(kind, contents)": ["copied()", "__eq__(other)"], "blank_thing(kind)": None,
        "holds_number(content, number)": None, "told_content(source, field, content)": None, "picture_copy(picture)": None,
    },
    "objects/source.py": {"PictureSource(picture)": SOURCE},
    "objects/view.py": {
        "Refusing(number, field)": ["__eq__(other)"],
        "View(schema, source)": SOURCE + [
            "there(number)", "kind_of(number)", "told(number, field)", "listed(number, field)", "look_up(kind, names, amounts)",
            "referred(number, kind, field)", "make(number, kind, contents)", "put(number, field, amount)",
            "link(number, field, other, behind=None)", "unlink(number, field, other)", "delete(number)", "undo()",
            "picture(base)", "do(deed)",
        ],
    },
    "objects/touching.py": {"Touch(number, made, gone, names)": ["__eq__(other)"], "touched(view)": None},
    "objects/constraints.py": {
        "constraints_against(schema, picture, number)": None, "first_against(schema, picture, touches)": None,
        "picture_size(schema, picture)": None,
    },
    "heap/line.py": {
        "Version(number, schema, step, shut=False)": [],
        "Line(versions)": ["place_of(number)", "schema_of(number)", "version_numbers()"],
    },
    "heap/heap.py": {
        "Heap(pictures)": ["picture_of(number)", "copied()", "__eq__(other)"], "without_numbers(schema, picture, gone)": None,
    },
    "heap/spreading.py": {
        "spread(line, heap, number, picture, touches)": None, "follow(step, to_young, far, near, touches)": None,
        "with_version(line, heap)": None, "without_version(line, heap, number)": None,
    },
    "store/tables.py": {
        "Column(name, role, targets=())": ["__eq__(other)"], "StoreKey(name, places)": ["__eq__(other)"],
        "Table(name, columns, unique=())": ["__eq__(other)"], "table_named(tables, name)": None,
    },
    "store/rows.py": {
        "Row(table, number, cells)": ["__eq__(other)"], "sorted_rows(tables, rows)": None, "key_value(table, key, cells)": None,
    },
    "layouts/strands.py": {
        "strand_of(line, place, kind, field)": None, "kin_of(line, place, kind, other)": None, "CarriedKey(name, versions)": [],
        "carried_keys(line)": None,
    },
    "layouts/layout.py": {
        "Layout(line)": ["object_rows(heap, number, version)", "rows_of(heap, places)", "read(rows)"], "column_count(tables)": None,
    },
    "layouts/source.py": {"RowSource(layout, rows, version)": []},
    "store/transactions.py": {
        "first_fault(tables, rows)": None, "are_in_order(tables, rows)": None, "run_statements(tables, rows, statements)": None,
    },
    "planner/needs.py": {
        "Need(before, behind)": ["__eq__(other)"], "needs_of(tables, rows, wanted)": None, "statement_of(need)": None,
    },
    "planner/order.py": {"goes_ahead(tables, first, second)": None, "freed_of(tables, needs)": None},
    "planner/planning.py": {"plan_rows(tables, rows, wanted)": None},
    "queries/lines.py": {"check_parameters(query, parameters)": None, "lines_by(view, query, parameters, numbers)": None},
    "queries/plans.py": {"plan_text(schema, text)": None, "candidates(view, query, parameters)": None},
    "queries/deeds.py": {
        "answer_query(view, text, parameters)": None, "object_columns_of(schema, text)": None, "do(view, deed)": None,
    },
    "reading/reader.py": {
        "Request(what, numbers)": ["__eq__(other)"],
        "Reader(base)": SOURCE + [
            "knows(number)", "company(number)", "together(numbers)", "known_count()", "bounded()", "forget()", "take_requests()",
        ],
    },
    "reading/company.py": {
        "beside(reader, schema, number, field)": None, "prepare(reader, view, deed)": None,
        "answered(reader, view, deed, answer)": None, "read_ahead(reader, schema, numbers, paths)": None,
    },
    "mapper/mapper.py": {
        "Mapper(text)": ["start_session(version, number)", "add_version(text)", "shut(version)", "end(version)", "move(version, many)"],
    },
    "mapper/session.py": {
        "Session(ground, version, number)": [
            "there(number)", "kind_of(number)", "told(number, field)", "listed(number, field)", "look_up(kind, names, amounts)",
            "referred(number, kind, field)", "ask(text, parameters)", "make(kind, contents)", "put(number, field, amount)",
            "link(number, field, other, behind=None)", "unlink(number, field, other)", "delete(number)", "undo()", "flush()",
            "refresh()", "rebase()", "drop()", "close()", "ahead(numbers, paths)", "forget()",
        ],
    },
    "mapper/inspector.py": {
        "version_rows(mapper)": None, "schema_text(mapper, version)": None, "step_text(mapper, version)": None,
        "losing_of(mapper, version)": None, "would_lose(mapper, version)": None, "against(mapper, version)": None,
        "table_rows(mapper, name)": None, "transaction(mapper)": None, "take_requests(mapper)": None,
        "plan_of_query(mapper, version, text)": None, "why(mapper, number)": None,
    },
}


def head(node, name, is_method):
    """Return the name and the parameters of a function as the interface writes them."""
    told = [one.arg for one in node.args.args]
    defaults = [ast.unparse(one) for one in node.args.defaults]
    for at, default in enumerate(defaults):
        told[len(told) - len(defaults) + at] += f"={default}"
    return f"{name}({', '.join(told[1:] if is_method else told)})"


class InterfaceTest(unittest.TestCase):
    def test_all_that_is_listed_stands_in_its_file(self):
        for name, wanted in FILES.items():
            with open(os.path.join(PACKAGE, name), encoding="utf-8") as file:
                tree = ast.parse(file.read())
            found = {}
            for node in tree.body:
                if isinstance(node, ast.FunctionDef):
                    found[head(node, node.name, False)] = None
                elif isinstance(node, ast.ClassDef):
                    methods = [one for one in node.body if isinstance(one, ast.FunctionDef)]
                    first = [one for one in methods if one.name == "__init__"]
                    own = head(first[0], node.name, True) if first else f"{node.name}()"
                    found[own] = [head(one, one.name, True) for one in methods]
            for one, methods in wanted.items():
                self.assertIn(one, found, name)
                for method in methods or []:
                    self.assertIn(method, found[one], f"{name}: {one}")


if __name__ == "__main__":
    unittest.main()
