"""The errors of the text, of files, programs, patterns and machines. Each keeps what it is made with."""


class PipeError(ValueError):
    def __init__(self):
        ValueError.__init__(self)


class BadScript(PipeError):
    def __init__(self, script):
        self.script = script


class BadShellText(PipeError):
    def __init__(self, line, sign):
        self.line = line
        self.sign = sign


class BadHeldText(PipeError):
    def __init__(self, text):
        self.text = text


class BadScope(PipeError):
    def __init__(self, scope):
        self.scope = scope


class BadWords(PipeError):
    def __init__(self, index):
        self.index = index


class BadAnswers(PipeError):
    def __init__(self, index):
        self.index = index


class BadShellWord(PipeError):
    def __init__(self, word):
        self.word = word


class BadSum(PipeError):
    def __init__(self, total):
        self.total = total


class BadValues(PipeError):
    def __init__(self, held):
        self.held = held


class BadChunks(PipeError):
    def __init__(self, index):
        self.index = index


class BadSimple(PipeError):
    def __init__(self, word):
        self.word = word


class BadLine(PipeError):
    def __init__(self, line):
        self.line = line


class BadTree(PipeError):
    def __init__(self, tree):
        self.tree = tree


class BadPath(PipeError):
    def __init__(self, path):
        self.path = path


class BadString(PipeError):
    def __init__(self, text):
        self.text = text


class BadWay(PipeError):
    def __init__(self, way):
        self.way = way


class BadDirectories(PipeError):
    def __init__(self, index):
        self.index = index


class BadFiles(PipeError):
    def __init__(self, index):
        self.index = index


class BadRows(PipeError):
    def __init__(self, index):
        self.index = index


class BadProgram(PipeError):
    def __init__(self, program):
        self.program = program


class BadStreams(PipeError):
    def __init__(self, streams):
        self.streams = streams


class BadMost(PipeError):
    def __init__(self, most):
        self.most = most


class BadDeeds(PipeError):
    def __init__(self, index):
        self.index = index


class BadDescriptor(PipeError):
    def __init__(self, n):
        self.n = n


class BadPiece(PipeError):
    def __init__(self, piece):
        self.piece = piece


class BadProgramText(PipeError):
    def __init__(self, line, sign):
        self.line = line
        self.sign = sign


class BadPattern(PipeError):
    def __init__(self, pattern):
        self.pattern = pattern


class BadLetter(PipeError):
    def __init__(self, letter):
        self.letter = letter


class BadText(PipeError):
    def __init__(self, place):
        self.place = place


class BadMany(PipeError):
    def __init__(self, many):
        self.many = many


class BadGlob(PipeError):
    def __init__(self, glob):
        self.glob = glob


class BadNames(PipeError):
    def __init__(self, index):
        self.index = index


class BadSteps(PipeError):
    def __init__(self, steps):
        self.steps = steps


class BadPieces(PipeError):
    def __init__(self, index):
        self.index = index


class BadHolders(PipeError):
    def __init__(self, index):
        self.index = index


class BadRooms(PipeError):
    def __init__(self, rooms):
        self.rooms = rooms


class BadSignals(PipeError):
    def __init__(self, index):
        self.index = index


class BadPipe(PipeError):
    def __init__(self, pipe):
        self.pipe = pipe
