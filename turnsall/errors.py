"""The errors of all parts. Each keeps what it was made with, whatever that is."""


class TurnError(ValueError):
    """What is refused."""


class BadOrder(TurnError):
    def __init__(self, part):
        self.part = part


class BadWorld(TurnError):
    def __init__(self, part):
        self.part = part


class BadPaper(TurnError):
    def __init__(self, part):
        self.part = part


class BadTerm(TurnError):
    def __init__(self, path):
        self.path = path


class BadText(TurnError):
    def __init__(self, line, word):
        self.line = line
        self.word = word


class NotAlike(TurnError):
    def __init__(self, given):
        self.given = given


class BadItem(TurnError):
    def __init__(self, given):
        self.given = given


class BadLot(TurnError):
    def __init__(self, given):
        self.given = given


class BadLower(TurnError):
    def __init__(self, given):
        self.given = given


class BadSolution(TurnError):
    def __init__(self, given):
        self.given = given


class BadTurn(TurnError):
    def __init__(self, given):
        self.given = given


class BadPairing(TurnError):
    def __init__(self, given):
        self.given = given


class BadOne(TurnError):
    def __init__(self, given):
        self.given = given


class BadFirst(TurnError):
    def __init__(self, given):
        self.given = given


class BadRow(TurnError):
    def __init__(self, given):
        self.given = given


class BadSize(TurnError):
    def __init__(self, given):
        self.given = given


class BadWays(TurnError):
    def __init__(self, given):
        self.given = given


class BadOuts(TurnError):
    def __init__(self, given):
        self.given = given


class BadBlocks(TurnError):
    def __init__(self, given):
        self.given = given


class BadBlock(TurnError):
    def __init__(self, given):
        self.given = given


class BadHeights(TurnError):
    def __init__(self, given):
        self.given = given


class BadSpans(TurnError):
    def __init__(self, given):
        self.given = given


class BadBounds(TurnError):
    def __init__(self, given):
        self.given = given


class BadPlace(TurnError):
    def __init__(self, given):
        self.given = given


class BadJob(TurnError):
    def __init__(self, given):
        self.given = given


class BadJobs(TurnError):
    def __init__(self, given):
        self.given = given


class BadShift(TurnError):
    def __init__(self, given):
        self.given = given


class BadBound(TurnError):
    def __init__(self, given):
        self.given = given


class BadField(TurnError):
    def __init__(self, given):
        self.given = given


class BadLaying(TurnError):
    def __init__(self, given):
        self.given = given


class BadSide(TurnError):
    def __init__(self, given):
        self.given = given


class BadFlow(TurnError):
    def __init__(self, given):
        self.given = given


class BadPipe(TurnError):
    def __init__(self, given):
        self.given = given


class BadRoom(TurnError):
    def __init__(self, given):
        self.given = given


class BadLowers(TurnError):
    def __init__(self, given):
        self.given = given


class BadNumber(TurnError):
    def __init__(self, given):
        self.given = given


class BadWorths(TurnError):
    def __init__(self, given):
        self.given = given


class BadWeights(TurnError):
    def __init__(self, given):
        self.given = given


class BadCarry(TurnError):
    def __init__(self, given):
        self.given = given


class BadPins(TurnError):
    def __init__(self, given):
        self.given = given


class BadHouse(TurnError):
    def __init__(self, given):
        self.given = given


class BadActs(TurnError):
    def __init__(self, given):
        self.given = given


class BadNest(TurnError):
    def __init__(self, given):
        self.given = given


class TooMany(OverflowError):
    def __init__(self, most):
        self.most = most


class Missing(KeyError):
    def __init__(self, given):
        self.given = given


class NothingLeft(RuntimeError):
    def __init__(self, many):
        self.many = many
