"""The errors of processes, signs, rows and sessions. Each keeps what it is made with."""

from everypipe.errors import PipeError


class BadProcess(PipeError):
    def __init__(self, process):
        self.process = process


class CannotStep(PipeError):
    def __init__(self, process):
        self.process = process


class BadSchedule(PipeError):
    def __init__(self, index):
        self.index = index


class BadMachine(PipeError):
    def __init__(self, machine):
        self.machine = machine


class BadArguments(PipeError):
    def __init__(self, index):
        self.index = index


class BadStrings(PipeError):
    def __init__(self, index):
        self.index = index


class BadLines(PipeError):
    def __init__(self, index):
        self.index = index


class BadTask(PipeError):
    def __init__(self, index):
        self.index = index


class BadTasks(PipeError):
    def __init__(self, tasks):
        self.tasks = tasks


class Ringed(PipeError):
    def __init__(self, tasks):
        self.tasks = tasks


class BadLeftOut(PipeError):
    def __init__(self, thing):
        self.thing = thing


class BadMade(PipeError):
    def __init__(self, name):
        self.name = name


class BadRecords(PipeError):
    def __init__(self, records):
        self.records = records


class BadLasts(PipeError):
    def __init__(self, lasts):
        self.lasts = lasts


class BadSign(PipeError):
    def __init__(self, sign):
        self.sign = sign


class BadActor(PipeError):
    def __init__(self, actor):
        self.actor = actor


class BadSigns(PipeError):
    def __init__(self, index):
        self.index = index


class BadAllowed(PipeError):
    def __init__(self, allowed):
        self.allowed = allowed


class BadNet(PipeError):
    def __init__(self, net):
        self.net = net


class BadRow(PipeError):
    def __init__(self, row):
        self.row = row


class BadDeed(PipeError):
    def __init__(self, deed):
        self.deed = deed


class BadWaits(PipeError):
    def __init__(self, waits):
        self.waits = waits


class TooMany(PipeError):
    def __init__(self, many):
        self.many = many


class NotWhole(PipeError):
    def __init__(self, machine):
        self.machine = machine


class BadOutcome(PipeError):
    def __init__(self, outcome):
        self.outcome = outcome


class BadOther(PipeError):
    def __init__(self, other):
        self.other = other


class BadStep(PipeError):
    def __init__(self, thing):
        self.thing = thing


class BadTruth(PipeError):
    def __init__(self, is_asked):
        self.is_asked = is_asked


class BadRowOf(PipeError):
    def __init__(self, index):
        self.index = index


class BadRowText(PipeError):
    def __init__(self, line, sign):
        self.line = line
        self.sign = sign


class NotDone(PipeError):
    def __init__(self, index):
        self.index = index


class BadProcesses(PipeError):
    def __init__(self, index):
        self.index = index


class BadPair(PipeError):
    def __init__(self, pair):
        self.pair = pair


class BadAlphabet(PipeError):
    def __init__(self, index):
        self.index = index


class UnlikeRows(PipeError):
    def __init__(self):
        PipeError.__init__(self)


class BadTexts(PipeError):
    def __init__(self, index):
        self.index = index


class BadSchedules(PipeError):
    def __init__(self, index):
        self.index = index
