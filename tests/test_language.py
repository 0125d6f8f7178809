"""The rules of the language that a look at the files can judge."""

import ast
import importlib
import inspect
import os
import re
import unittest

HERE = os.path.dirname(os.path.abspath(__file__))
PACKAGE = os.path.join(os.path.dirname(HERE), "firstwrong")
NAMES = sorted(name for name in os.listdir(PACKAGE) if name != "__pycache__")

BUILTINS = set("""len range enumerate zip min max sum abs sorted reversed int str bool bytes list tuple dict set
frozenset isinstance ord repr any all divmod pow getattr hasattr setattr Exception ValueError TypeError KeyError
IndexError LookupError ZeroDivisionError ArithmeticError OverflowError RuntimeError NotImplementedError
AttributeError StopIteration NotImplemented iter next map""".split())
METHODS = set("""append clear copy count endswith extend find get index insert isalnum isalpha isdigit islower
isspace isupper items join keys ljust lower lstrip partition pop remove replace reverse rfind rjust rpartition
rsplit rstrip setdefault split splitlines startswith strip update upper values zfill bit_length sort add discard
title capitalize swapcase casefold center expandtabs removeprefix removesuffix rindex isascii isdecimal isnumeric
istitle isidentifier isprintable""".split())
NOWHERE = set("register mro elements open input law version_info with_traceback add_note".split())
WORDS = set("""type typing typing_extensions enum Enum IntEnum StrEnum Flag IntFlag Generic Protocol ABC ABCMeta
namedtuple NamedTuple TypedDict TYPE_CHECKING abstractmethod""".split())
ALL_BUILTINS = set(dir(__builtins__)) if not isinstance(__builtins__, dict) else set(__builtins__)
STATEMENTS = (ast.Assign, ast.AugAssign, ast.AnnAssign, ast.If, ast.While, ast.For, ast.Return, ast.Break,
              ast.Continue, ast.Pass, ast.Raise, ast.Assert, ast.Delete, ast.Try, ast.Expr, ast.FunctionDef,
              ast.ClassDef, ast.ImportFrom)


def read(name):
    with open(os.path.join(PACKAGE, name), encoding="utf-8", newline="") as file:
        return file.read()


def functions(tree):
    return [node for node in ast.walk(tree) if isinstance(node, ast.FunctionDef)]


def bound(node):
    """The names that a function binds."""
    found = {arg.arg for arg in node.args.args + node.args.kwonlyargs}
    for part in ast.walk(node):
        if isinstance(part, ast.Name) and isinstance(part.ctx, ast.Store):
            found.add(part.id)
        if isinstance(part, (ast.FunctionDef,)) and part is not node:
            found.add(part.name)
        if isinstance(part, ast.Lambda):
            found |= {arg.arg for arg in part.args.args}
        if isinstance(part, ast.ExceptHandler) and part.name:
            found.add(part.name)
    return found


class Language(unittest.TestCase):
    def each(self):
        for name in NAMES:
            self.where = name
            text = read(name)
            yield name, text, ast.parse(text)

    def _formatMessage(self, msg, standardMsg):
        return f"{getattr(self, 'where', '')}: {super()._formatMessage(msg, standardMsg)}"

    def test_files(self):
        self.assertLessEqual(len(NAMES), 100)
        for name in NAMES:
            self.assertRegex(name, r"^[a-z0-9_]+\.py$")
            self.assertFalse(name.startswith(("law_", "test")))

    def test_sizes_and_characters(self):
        for name, text, tree in self.each():
            lines = text.split("\n")
            self.assertLessEqual(len(lines) - 1, 399)
            self.assertTrue(all(len(line) <= 120 for line in lines))
            self.assertTrue(all(c == "\n" or " " <= c <= "~" for c in text))
            for node in functions(tree):
                self.assertLessEqual(node.end_lineno - node.lineno + 1, 40, node.name)

    def test_imports(self):
        graph = {}
        for name, text, tree in self.each():
            graph[name[:-3]] = []
            for node in ast.walk(tree):
                self.assertNotIsInstance(node, ast.Import)
                if isinstance(node, ast.ImportFrom):
                    self.assertIn(node, tree.body)
                    self.assertEqual(node.level, 0)
                    if node.module == "math":
                        self.assertTrue(all(alias.name == "comb" for alias in node.names))
                        continue
                    package, _, module = node.module.partition(".")
                    self.assertEqual(package, "firstwrong")
                    graph[name[:-3]].append(module)
                    defined = {n.name for n in ast.parse(read(module + ".py")).body
                               if isinstance(n, (ast.FunctionDef, ast.ClassDef))}
                    defined |= {t.id for n in ast.parse(read(module + ".py")).body if isinstance(n, ast.Assign)
                                for t in n.targets}
                    used = {n.id for n in ast.walk(tree) if isinstance(n, ast.Name)}
                    for alias in node.names:
                        self.assertIsNone(alias.asname)
                        self.assertIn(alias.name, defined)
                        self.assertIn(alias.name, used, "imported but not used")
        done = []

        def visit(module, way):
            self.assertNotIn(module, way)
            if module not in done:
                for other in graph[module]:
                    visit(other, way + [module])
                done.append(module)

        for module in graph:
            visit(module, [])

    def test_module_level(self):
        for name, text, tree in self.each():
            seen = []
            for node in tree.body:
                self.assertIsInstance(node, (ast.Expr, ast.ImportFrom, ast.FunctionDef, ast.ClassDef, ast.Assign))
                if isinstance(node, ast.Expr):
                    self.assertIsInstance(node.value, ast.Constant)
                elif isinstance(node, ast.ImportFrom):
                    seen += [alias.name for alias in node.names]
                elif isinstance(node, ast.Assign):
                    self.assertEqual(len(node.targets), 1)
                    seen.append(node.targets[0].id)
                    self.assertFalse([n for n in ast.walk(node.value) if isinstance(n, (ast.Call, ast.ListComp))])
                else:
                    seen.append(node.name)
            self.assertEqual(len(seen), len(set(seen)), "a name is bound twice")
            self.assertFalse(set(seen) & (ALL_BUILTINS | NOWHERE))

    def test_statements_and_values(self):
        for name, text, tree in self.each():
            for node in ast.walk(tree):
                if isinstance(node, ast.stmt):
                    self.assertIsInstance(node, STATEMENTS)
                self.assertNotIsInstance(node, (ast.Div, ast.MatMult))
                if isinstance(node, ast.Constant):
                    self.assertNotIsInstance(node.value, (float, complex, bytes))
                    if isinstance(node.value, str):
                        self.assertNotIn("%", node.value)
                if isinstance(node, ast.BinOp) and isinstance(node.op, ast.Pow):
                    self.assertIsInstance(node.right, ast.Constant)
                    self.assertLessEqual(node.right.value, 64)
                if isinstance(node, ast.Compare):
                    for op, other in zip(node.ops, node.comparators):
                        if isinstance(op, (ast.Is, ast.IsNot)):
                            self.assertIsInstance(other, ast.Constant)
                if isinstance(node, (ast.FunctionDef, ast.ClassDef)):
                    self.assertFalse(node.decorator_list)
                    self.assertTrue(ast.get_docstring(node) or node.name in ("__init__", "__eq__"), node.name)

    def test_names(self):
        for name, text, tree in self.each():
            top = {n.name for n in tree.body if isinstance(n, ast.ClassDef)}
            top |= {alias.name for n in tree.body if isinstance(n, ast.ImportFrom) for alias in n.names}
            used = {n.name for n in tree.body if isinstance(n, ast.FunctionDef)} | top
            for node in functions(tree):
                self.assertFalse(bound(node) & (ALL_BUILTINS | NOWHERE), node.name)
                self.assertFalse(bound(node) & top, node.name)
            for node in ast.walk(tree):
                if isinstance(node, ast.Name) and node.id in ALL_BUILTINS and node.id not in used:
                    self.assertIn(node.id, BUILTINS)
                if isinstance(node, ast.Attribute):
                    self.assertNotIn(node.attr, NOWHERE)
                    self.assertFalse(node.attr.startswith("__") and node.attr != "__init__")
                if isinstance(node, ast.keyword) and node.arg:
                    self.assertNotIn(node.arg, NOWHERE)
            strings = re.sub(r'"""[\s\S]*?"""', "", text)
            strings = re.sub(r"#.*", "", strings)
            self.assertFalse(set(re.findall(r"\w+", strings)) & WORDS)

    def test_methods_of_values(self):
        own = set()
        for name in NAMES:
            for node in ast.walk(ast.parse(read(name))):
                if isinstance(node, ast.ClassDef):
                    own |= {n.name for n in node.body if isinstance(n, ast.FunctionDef)}
        for name, text, tree in self.each():
            for node in ast.walk(tree):
                if isinstance(node, ast.Call) and isinstance(node.func, ast.Attribute):
                    self.assertIn(node.func.attr, METHODS | own)
                    self.assertNotIn(node.func.attr, ("encode", "decode", "to_bytes", "fromhex"))
                if isinstance(node, ast.Call) and isinstance(node.func, ast.Name):
                    self.assertNotIn(node.func.id, ("bytes", "frozenset"))

    def test_truths_take_lists(self):
        """Since classes have an __eq__, any, all and the like take no generator expression."""
        for name, text, tree in self.each():
            for node in ast.walk(tree):
                self.assertNotIsInstance(node, ast.GeneratorExp)


class Attributes(unittest.TestCase):
    def test_no_name_is_a_method_and_an_attribute(self):
        methods, attributes = set(), set()
        for name in NAMES:
            for node in ast.walk(ast.parse(read(name))):
                if isinstance(node, ast.ClassDef):
                    methods |= {part.name for part in node.body if isinstance(part, ast.FunctionDef)}
                if isinstance(node, ast.Attribute) and isinstance(node.ctx, ast.Store):
                    attributes.add(node.attr)
                    # Attributes are assigned through a local name.
                    self.assertIsInstance(node.value, ast.Name, name)
        # Those that the interface lists as both, of unlike classes.
        self.assertLessEqual(methods & attributes, {"moment", "told"})
        values = {word for kind in (str, int, list, dict, set, bytes) for word in dir(kind)}
        self.assertEqual({word for word in methods & values if not word.startswith("__")}, set())
        self.assertLessEqual(attributes & values, {"count"})

    def test_tables_hold_no_tables(self):
        for name in NAMES:
            for node in ast.parse(read(name)).body:
                if isinstance(node, ast.Assign):
                    inner = [part for part in ast.walk(node.value) if isinstance(part, (ast.List, ast.Dict)) and part is not node.value]
                    self.assertEqual(inner, [], name)


INTERFACE = """errors: WrongError BadBytes BadCell BadChart BadCheck BadChoices BadCode BadCondition BadDeed BadDisk
BadEdit BadEntry BadFilm BadFlat BadInputs BadLayout BadLedger BadLine BadLog BadLook BadMoment BadNames BadNumber
BadPast BadPlan BadSession BadSight BadStep BadStop BadStory BadTerm BadText BadTraces BadTree BadWeaving Lost NotNow
OldPen TooMany; rows: four_bytes mark_of; values: is_sort is_value; trees: is_tree Program tree_of pieces nodes;
moments: Moment begun; steps: can_step stepped undone run first_wrong is_clean; alikes: met least_alike are_alike
kinds_of; codes: Code code_of instruction_of checks_of without full; codebytes: code_bytes code_of_bytes;
codemoments: CodeMoment code_begun to_code to_tree; codesteps: code_can_step code_stepped code_run; disks: Disk;
examples: tally_text sorter_text spill_text; layouts: is_layout least_base; flats: flat_begun moment_told address_of
taken_by; flatsteps: flat_step flat_run flat_first_wrong; bares: bare_run told_apart; momentbytes: moment_bytes
moment_of_bytes; plans: farthest repeats fewest_steps is_plan times_done back_plan;
records: record_bytes records_of; renames: program_names renamed renamed_moment names_back names_between;
shapes: shape_of is_young; sights: is_sight seen seen_at; sources: sources_of unlike_sources; chains: is_chain chain_of;
causes: causes_of wrong_causes is_copying; roads: account_of road_of is_road; stories: is_edit edited is_story is_idle;
pasts: Past moment_at deed_at cut_past rest_past gone_on asks gives wrong_of waits; calls: depths call_of return_of over
over_back frames_of; cells: is_cell cell_value is_look shown writes_of last_set next_set changes_of table_of;
conditions: is_condition holds first_moment last_moment spans; searches: least_wrong story_of closed_shapes is_closed
stuck_shapes; stops: is_stop stopping_places next_stop last_stop; thinning: kept_places first_way thin_plan;
films: film_begun film_on film_at film_back all_back; programtexts: text_of program_of_text wrong_lines mended
statement_lines; runlogs: read_log logged log_bytes; cuts: pictures_in seek beginning_of thinned fault_in good_part
wrong_in; pens: Pen fallen; traits: bands_of sites_of; closings: is_closed_chart chart_of; sparing: needless spared;
weavings: names_of meetings clocks must_be_ahead; ledgers: is_ledger keeps_ledger Recorder least_ledger run_ledger
lets_in is_lean_ledger leaned_ledger; counting: how_many least_weaving next_weaving weaving_at place_of;
following: free_threads followed; watchers: Watcher verdict; races: order_clocks order_ledger races first_race both_ways;
whatif: deeds_part parting with_input with_course with_edit reach_of_edit without_deed lean_past;
sessions: is_deed Session; branches: parents_of alike_up_to partings;
terms: is_term term_text term_of_text deed_text deed_of_text; journals: journal taken_up trimmed;
ways: least_way distances; desk: Desk; wronglines: wrong_line"""
METHODS_LISTED = {"disks.Disk": "take_pen write make_sure cut fall found twin", "pens.Pen": "acts do",
                  "ledgers.Recorder": "seen ledger", "watchers.Watcher": "seen",
                  "sessions.Session": "do undo redo deeds undone past branches stops looks marks moment told",
                  "desk.Desk": "say"}


class Interface(unittest.TestCase):
    def test_defined_where_listed(self):
        for part in INTERFACE.split(";"):
            module, names = part.split(":")
            tree = ast.parse(read(module.strip() + ".py"))
            defined = {n.name for n in tree.body if isinstance(n, (ast.FunctionDef, ast.ClassDef))}
            self.assertEqual(set(names.split()) - defined, set(), module)

    def test_the_whole_list(self):
        """All that the document lists is here."""
        shared = os.path.join(os.path.dirname(os.path.dirname(HERE)), "shared", "DOC.md")
        if not os.path.exists(shared):
            self.skipTest("the document is not there")
        with open(shared, encoding="utf-8") as file:
            rows = re.findall(r"^- firstwrong/(\w+)\.py: (.*)$", file.read(), re.M)
        here = {part.split(":")[0].strip(): set(part.split(":")[1].split()) for part in INTERFACE.split(";")}
        for module, names in rows:
            listed = set(re.findall(r"\w+", re.sub(r"\([^)]*\)|, and directly below it, with their attributes", "", names)))
            self.assertEqual(here[module], listed, module)
        self.assertEqual(len(rows), len(here))

    def test_errors_lie_directly_below_one(self):
        errors = importlib.import_module("firstwrong.errors")
        names = [name for name in INTERFACE.split(";")[0].split(":")[1].split() if name != "WrongError"]
        self.assertEqual(errors.WrongError.__bases__, (ValueError,))
        for name in names:
            self.assertEqual(getattr(errors, name).__bases__, (errors.WrongError,))
        for name, attributes in (("BadBytes", "at"), ("BadCode", "at"), ("BadLayout", "part"), ("BadLine", "number"), ("BadLog", "at"), ("BadMoment", "part"),
                                 ("BadNames", "key"), ("BadNumber", "part"), ("BadPast", "part"), ("BadText", "line reason"), ("BadTree", "at"), ("Lost", "word"),
                                 ("NotNow", "why"), ("TooMany", "most")):
            told = [object() for _ in attributes.split()]
            error = getattr(errors, name)(*told)
            self.assertEqual([getattr(error, word) for word in attributes.split()], told)
            names.remove(name)
        for name in names:
            self.assertEqual(str(getattr(errors, name)("a message")), "a message")

    def test_methods_stand_in_their_classes(self):
        for path, names in METHODS_LISTED.items():
            module, name = path.split(".")
            found = getattr(importlib.import_module("firstwrong." + module), name)
            self.assertEqual(set(names.split()) - set(vars(found)), set(), path)


SIGNATURES = """values.is_sort thing; values.is_value sort thing; rows.four_bytes number; rows.mark_of thing;
trees.is_tree thing; trees.Program tree; trees.tree_of program; trees.pieces program function;
trees.nodes program function; moments.Moment program lives memory held stacks asked given wrong; moments.begun program;
steps.can_step moment thread; steps.stepped moment thread inputs; steps.undone moment back;
steps.run moment inputs weaving; steps.first_wrong moment inputs weaving; steps.is_clean moment inputs weaving;
alikes.met start inputs weaving; alikes.least_alike start inputs weaving; alikes.are_alike start inputs one other;
alikes.kinds_of start inputs many; codes.Code head lines; codes.code_of program;
codes.instruction_of code function position; codes.checks_of code; codes.without code some; codes.full code;
codebytes.code_bytes code; codebytes.code_of_bytes head thing;
codemoments.CodeMoment code lives memory held stacks asked given wrong; codemoments.code_begun code;
codemoments.to_code moment; codemoments.to_tree program moment; codesteps.code_can_step moment thread;
codesteps.code_stepped moment thread inputs; codesteps.code_run moment inputs weaving; disks.Disk sure late;
layouts.is_layout thing; layouts.least_base taken many hint; flats.flat_begun program layout; flats.moment_told flat;
flats.address_of flat pointer; flats.taken_by flat; flatsteps.flat_step flat thread inputs;
flatsteps.flat_run program layout inputs weaving; flatsteps.flat_first_wrong program layout inputs weaving;
bares.bare_run program layout inputs weaving; bares.told_apart program inputs weaving one other;
momentbytes.moment_bytes moment; momentbytes.moment_of_bytes program thing; plans.farthest pictures times;
plans.repeats steps pictures; plans.fewest_steps steps pictures; plans.is_plan steps pictures thing;
plans.times_done steps pictures plan; plans.back_plan steps pictures; examples.tally_text; examples.sorter_text;
examples.spill_text;
records.record_bytes kind payload; records.records_of thing; renames.program_names program; renames.renamed program names;
renames.renamed_moment program moment names; renames.names_back program names; renames.names_between program other;
shapes.shape_of moment; shapes.is_young moment; sights.is_sight program thing; sights.seen moment sight; sights.seen_at moment sight;
sources.sources_of moment inputs weaving; sources.unlike_sources moment inputs weaving other others;
chains.is_chain moment inputs weaving other others sight thing; chains.chain_of moment inputs weaving other others sight;
causes.causes_of moment inputs weaving sight; causes.wrong_causes moment inputs weaving; causes.is_copying program;
roads.account_of moment inputs weaving; roads.road_of moment inputs weaving place sight;
roads.is_road moment inputs weaving thing; stories.is_edit program thing; stories.edited moment edit;
stories.is_story program thing; stories.is_idle moment inputs entry; pasts.Past start story each;
pasts.moment_at past place; pasts.deed_at past place; pasts.cut_past past place; pasts.rest_past past place;
pasts.gone_on past inputs course; pasts.asks past; pasts.gives past; pasts.wrong_of past; pasts.waits past thread;
calls.depths past thread; calls.call_of past place thread; calls.return_of past place thread;
calls.over past place thread; calls.over_back past place thread; calls.frames_of past thread;
cells.is_cell program thing; cells.cell_value moment cell; cells.is_look program thing; cells.shown moment look;
cells.writes_of past cell; cells.last_set past place cell; cells.next_set past place cell;
cells.changes_of past look; cells.table_of past looks; conditions.is_condition program thing;
conditions.holds moment condition; conditions.first_moment past place condition;
conditions.last_moment past place condition; conditions.spans past condition;
searches.least_wrong start values many; searches.story_of turns; searches.closed_shapes start values;
searches.is_closed start values thing; searches.stuck_shapes start values; stops.is_stop program thing;
stops.stopping_places past stop; stops.next_stop past place stop; stops.last_stop past place stop;
thinning.kept_places steps pictures; thinning.first_way steps pictures; thinning.thin_plan steps pictures;
films.film_begun program inputs pictures; films.film_on film thread; films.film_at film place; films.film_back film;
films.all_back program inputs weaving pictures; programtexts.text_of program; programtexts.program_of_text text;
programtexts.wrong_lines text; programtexts.mended text; programtexts.statement_lines text;
runlogs.read_log program thing; runlogs.logged program thing; runlogs.log_bytes program inputs weaving;
cuts.pictures_in program thing; cuts.seek program thing number; cuts.beginning_of program thing number;
cuts.thinned program thing spots; cuts.fault_in program thing; cuts.good_part program thing; cuts.wrong_in program thing;
pens.Pen program disk; pens.Pen.acts self deed; pens.Pen.do self deed; pens.fallen pen deed many kept;
traits.bands_of code; traits.sites_of code; closings.is_closed_chart code thing; closings.chart_of code;
sparing.needless code chart; sparing.spared code chart; weavings.names_of weaving; weavings.meetings weaving traces;
weavings.clocks weaving traces; weavings.must_be_ahead weaving traces one other; ledgers.is_ledger thing;
ledgers.keeps_ledger ledger weaving; ledgers.Recorder; ledgers.Recorder.seen self thread trace;
ledgers.Recorder.ledger self; ledgers.least_ledger weaving traces; ledgers.run_ledger moment inputs weaving;
ledgers.lets_in ledger entry; ledgers.is_lean_ledger ledger; ledgers.leaned_ledger ledger; counting.how_many ledger;
counting.least_weaving ledger; counting.next_weaving ledger weaving; counting.weaving_at ledger number;
counting.place_of ledger weaving; following.free_threads ledger done; following.followed moment inputs ledger choices;
watchers.Watcher; watchers.Watcher.seen self thread trace; watchers.verdict moment inputs weaving;
races.order_clocks weaving traces; races.order_ledger weaving traces; races.races weaving traces;
races.first_race moment inputs weaving; races.both_ways moment inputs weaving; whatif.deeds_part one other;
whatif.parting one other; whatif.with_input past number size; whatif.with_course past place course;
whatif.with_edit past place edit; whatif.reach_of_edit past place edit; whatif.without_deed past place;
whatif.lean_past past; sessions.is_deed program thing; sessions.Session start story each; sessions.Session.do self deed;
sessions.Session.undo self; sessions.Session.redo self; sessions.Session.deeds self; sessions.Session.undone self;
sessions.Session.past self number; sessions.Session.branches self; sessions.Session.stops self; sessions.Session.looks self;
sessions.Session.marks self; sessions.Session.moment self; sessions.Session.told self; branches.parents_of session number;
branches.alike_up_to session one other; branches.partings session; terms.is_term thing; terms.term_text term;
terms.term_of_text text; terms.deed_text program deed; terms.deed_of_text program text; journals.journal session;
journals.taken_up start story each lines; journals.trimmed session; ways.least_way session branch place;
ways.distances session; desk.Desk start story each; desk.Desk.say self line; wronglines.wrong_line text inputs weaving;
disks.Disk.take_pen self; disks.Disk.write self life thing; disks.Disk.make_sure self life; disks.Disk.cut self life many;
disks.Disk.fall self kept; disks.Disk.found self; disks.Disk.twin self"""


class Signatures(unittest.TestCase):
    def test_parameters_by_their_names(self):
        for row in SIGNATURES.split(";"):
            path, *names = row.split()
            module, *parts = path.split(".")
            found = importlib.import_module("firstwrong." + module)
            for part in parts:
                found = getattr(found, part)
            self.assertEqual(list(inspect.signature(found).parameters), names, path)


if __name__ == "__main__":
    unittest.main()
