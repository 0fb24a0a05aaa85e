"""Each name of the interface is defined in its file and takes its parameters; errors keep what they are made with."""

import ast
import importlib
import inspect
import os
import unittest

from everypipe.errors import PipeError
from helper import any_objects

TOP = os.path.dirname(os.path.dirname(os.path.abspath(__file__)))
FUNCTIONS = {
    "shelltrees": "is_script(thing) quoted(text)",
    "shellreading": "read_script(text) script_fault(text) completed(text)",
    "shellwriting": "script_text(script)",
    "shellsums": "sum_value(total,held)",
    "fields": "parted(chunks)",
    "filetrees": "is_line(thing) is_tree(thing) is_path(thing) kind_at(tree,path) names_at(tree,path) lines_at(tree,path) "
                 "resolved(here,text) opened(tree,path,way) with_line(tree,path,line) dir_and_name(path)",
    "patterns": "is_pattern(thing) is_match(pattern,line) first_match(pattern,line) can_end(pattern) "
                "behind_letter(pattern,letter) neat(pattern) sorts_of(patterns)",
    "expansion": "expanded(words,scope,answers) assigned(word,scope,answers) glob_of(word,scope,answers) asks(words)",
    "simplewords": "is_simple(thing) words_part(one,other)",
    "filelists": "files_of(tree) directories_of(tree) tree_of(directories,files) unlike_at(one,other)",
    "programs": "Program(rows)",
    "actors": "actor_of(program) stand(program,answers)",
    "patterntexts": "pattern_fault(text) read_pattern(text) pattern_text(pattern)",
    "globs": "is_glob(thing) glob_pattern(glob) is_taken(glob,name) taken_of(glob,names)",
    "signs": "sign_status(sign) is_signals(thing) leaving_out(actor,signs)",
    "alone": "alone(program,streams,most) outs_of(deeds) needs_of(deeds,n)",
    "givens": "program_of(piece) plain_of(piece,streams,most)",
    "programtexts": "program_text(program) read_program(text) program_fault(text)",
    "patternpairs": "parting_line(one,other) alike_paper(one,other) is_alike_paper(one,other,thing) least_line(pattern) "
                    "count_matches(pattern,many) outside_line(one,other) common_line(one,other)",
    "machines": "Machine(tree,holders,rooms,signals)",
    "shells": "shell_actor(script,arguments)",
    "callings": "piece_of(strings)",
    "scriptmachines": "script_machine(script,tree,arguments,lines,rooms,signals)",
    "plain": "plain_meaning(script,tree,arguments,lines,steps)",
    "rowmeanings": "row_meaning(pieces,lines,most)",
    "tasks": "Tasks(rows) order_of(tasks) need_ring(tasks) task_race(tasks)",
    "plans": "is_plan(tasks,many,thing) chain(tasks) level_plan(tasks) high_plan(tasks,many) height_paper(tasks,many)",
    "twoplans": "two_plan(tasks) two_paper(tasks) paper_rounds(tasks,thing)",
    "builds": "built(tasks,tree,records,make) why_made(tasks,tree,records)",
    "slots": "by_slots(tasks,many,lasts)",
    "everypoint": "points_of(tree,holders,rooms,process) left_at(tree,holders,rooms,process,sign) "
                  "first_other(tree,holders,rooms,process,sign,allowed) torn_files(tree,holders,rooms,process,sign) "
                  "first_torn(tree,holders,rooms,process,sign)",
    "orders": "misfit(net,row) counts(net,row) dependent(one,other) first_pair(net,row)",
    "lateness": "is_late(net,row) late_run(machine,many)",
    "sureness": "cuts(net,row)",
    "words": "word_of(net,row,waits) is_word(net,row,waits,thing)",
    "looking": "looked_at(machine,many)",
    "twos": "is_two(machine,thing,many) two_schedules(machine,many) left_alike(machine,one,other,many)",
    "rings": "holders_of(machine,process) ring_of(machine) is_ring(machine,thing) ways_to_ring(machine)",
    "rooms": "ends_by(tree,holders,rooms,signals,many) least_rooms(tree,holders,signals,most,many) "
             "rooms_paper(tree,holders,rooms,signals,many) is_straight(tree,holders,rooms)",
    "outcomes": "outcome_of(machine) script_outcome(script,tree,arguments,lines,rooms,schedule,many) unlike_outcomes(one,other)",
    "onerun": "script_word(script,tree,arguments,lines,rooms,many) is_paper(machine,thing,many) paper_of(machine,many) "
              "script_parting(script,other,tree,arguments,lines,rooms,many)",
    "rows": "is_row(thing) row_lines(row,lines) row_status(row,lines) dead_pieces(row)",
    "rowsteps": "steps_of(row) stepped(row,step) last_row(row) keeps_status(row,step) last_asked(row) row_needs(row,many)",
    "rowchains": "row_chain(one,other) is_row_chain(one,other,thing) rewrite_fault(one,other,is_asked)",
    "rowtexts": "row_text(row) row_fault(text) read_row(text)",
    "replays": "again(machine,row) is_done_by(machine,thing) schedule_of(machine,row) led(machine,processes)",
    "rowparts": "own_rows(row) parting(one,other) first_unlike(one,other)",
    "allruns": "stands_of(machine,most) soonest(machine,one,other,most)",
    "alikerows": "parting_within(one,other,lines,many) row_sort(row) marks_of(one,other) parting_stream(one,other)",
    "sessions": "Session(tree,rooms) replayed(tree,rooms,texts,schedules,many) first_loose(tree,rooms,texts,many)",
}
METHODS = {
    ("programs", "Program"): "rows() __eq__(other)",
    ("tasks", "Tasks"): "rows() names() __eq__(other)",
    ("machines", "Machine"): "files() deeds() content(pipe) table(process) status(process) processes() shape() can() step(process) "
                             "run(schedule,many) is_whole() left() waiting(process) copy() __eq__(other)",
    ("sessions", "Session"): "enter(text,schedule,many) now() history() defined() undo() redo() word(text,many) copy() __eq__(other)",
}
LEFT_OUT = {"Machine": {"signals": ()}, "script_machine": {"signals": ()}}
ERRORS = """BadScript(script) BadShellText(line,sign) BadHeldText(text) BadScope(scope) BadWords(index) BadAnswers(index)
BadShellWord(word) BadSum(total) BadValues(held) BadChunks(index) BadSimple(word) BadLine(line) BadTree(tree)
BadPath(path) BadString(text) BadWay(way) BadDirectories(index) BadFiles(index) BadRows(index) BadProgram(program)
BadStreams(streams) BadMost(most) BadDeeds(index) BadDescriptor(n) BadPiece(piece) BadProgramText(line,sign)
BadPattern(pattern) BadLetter(letter) BadText(place) BadMany(many) BadGlob(glob) BadNames(index) BadSteps(steps)
BadPieces(index) BadHolders(index) BadRooms(rooms) BadSignals(index) BadPipe(pipe) PipeError()"""
REFUSALS = """BadProcess(process) CannotStep(process) BadSchedule(index) BadMachine(machine) BadArguments(index)
BadStrings(index) BadLines(index) BadTask(index) BadTasks(tasks) Ringed(tasks) BadLeftOut(thing) BadMade(name)
BadRecords(records) BadLasts(lasts) BadSign(sign) BadActor(actor) BadSigns(index) BadAllowed(allowed) BadNet(net)
BadRow(row) BadDeed(deed) BadWaits(waits) TooMany(many) NotWhole(machine) BadOutcome(outcome) BadOther(other)
BadStep(thing) BadTruth(is_asked) BadRowOf(index) BadRowText(line,sign) NotDone(index) BadProcesses(index) BadPair(pair)
BadAlphabet(index) UnlikeRows() BadTexts(index) BadSchedules(index)"""


def signatures(text):
    for word in text.split():
        name, _, rest = word.partition("(")
        yield name, [part for part in rest.rstrip(")").split(",") if part]


def top_definitions(file):
    with open(os.path.join(TOP, "everypipe", file + ".py"), encoding="utf-8") as source:
        body = ast.parse(source.read()).body
    return {node.name: node for node in body if isinstance(node, (ast.FunctionDef, ast.ClassDef))}


class Interface(unittest.TestCase):
    def test_functions_stand_in_their_files(self):
        for file, text in FUNCTIONS.items():
            module = importlib.import_module("everypipe." + file)
            defined = top_definitions(file)
            for name, parameters in signatures(text):
                self.assertIn(name, defined)
                found = inspect.signature(getattr(module, name)).parameters
                self.assertEqual(list(found), parameters, name)
                defaults = {word: one.default for word, one in found.items() if one.default is not one.empty}
                self.assertEqual(defaults, LEFT_OUT.get(name, {}))

    def test_methods_stand_in_their_classes(self):
        for (file, name), methods in METHODS.items():
            inside = {node.name: node for node in top_definitions(file)[name].body if isinstance(node, ast.FunctionDef)}
            for method, parameters in signatures(methods):
                self.assertIn(method, inside)
                self.assertEqual([arg.arg for arg in inside[method].args.args], ["self", *parameters])

    def test_errors(self):
        for file, text in (("errors", ERRORS), ("refusals", REFUSALS)):
            module = importlib.import_module("everypipe." + file)
            defined = top_definitions(file)
            wanted = dict(signatures(text))
            self.assertEqual(sorted(defined), sorted(wanted))
            for name, parameters in wanted.items():
                self.check_error(getattr(module, name), parameters)

    def check_error(self, error, parameters):
        if error is PipeError:
            self.assertEqual(error.__bases__, (ValueError,))
        else:
            self.assertEqual(error.__bases__, (PipeError,))
        for thing in any_objects():
            by_place = error(*[thing] * len(parameters))
            by_name = error(**{name: thing for name in parameters})
            for made in (by_place, by_name):
                self.assertIsInstance(made, ValueError)
                self.assertEqual(sorted(vars(made)), sorted(parameters))
                for name in parameters:
                    self.assertIs(getattr(made, name), thing)
        marks = [object() for _ in parameters]
        made = error(*marks)
        for name, mark in zip(parameters, marks):
            self.assertIs(getattr(made, name), mark)
        with self.assertRaises(TypeError):
            error(*marks, 1)


if __name__ == "__main__":
    unittest.main()
