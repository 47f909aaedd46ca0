"""All errors of the package: one base class, and one class for each kind of failure."""


class HallError(Exception):
    """The base class of all errors of this package."""


class InvalidText(HallError):
    """A text that cannot be read, wrong at a place."""

    def __init__(self, at):
        self.at = at


class InvalidHall(HallError):
    """A hall, or what one is made of, that is none."""

    def __init__(self, at):
        self.at = at


class InvalidCell(HallError):
    """A cell that the hall does not have."""

    def __init__(self, at):
        self.at = at


class InvalidLot(HallError):
    """A lot of things that is wrong."""

    def __init__(self, at):
        self.at = at


class InvalidWays(HallError):
    """Ways that are wrong."""

    def __init__(self, at):
        self.at = at


class InvalidWay(HallError):
    """A row of cells that cannot be gone."""

    def __init__(self, at):
        self.at = at


class InvalidTies(HallError):
    """Ties, or goings between lanes, that are wrong."""

    def __init__(self, at):
        self.at = at


class InvalidBlocks(HallError):
    """Blocks that are not those of their ties."""

    def __init__(self, at):
        self.at = at


class InvalidRobots(HallError):
    """Robots, or their homes, that are wrong."""

    def __init__(self, at):
        self.at = at


class InvalidPlan(HallError):
    """A plan with a wrong row."""

    def __init__(self, at):
        self.at = at


class InvalidTask(HallError):
    """A task with a wrong start or goal."""

    def __init__(self, at):
        self.at = at


class InvalidOrders(HallError):
    """Orders, or an order of visits, that are wrong."""

    def __init__(self, at):
        self.at = at


class InvalidStanding(HallError):
    """A standing that is none."""

    def __init__(self, at):
        self.at = at


class InvalidHolds(HallError):
    """Holds of cells that are wrong."""

    def __init__(self, at):
        self.at = at


class InvalidLetter(HallError):
    """A letter that is none."""

    def __init__(self, at):
        self.at = at


class InvalidBook(HallError):
    """A book of facts that is wrong."""

    def __init__(self, at):
        self.at = at


class InvalidScript(HallError):
    """Words that are none, or cannot be done."""

    def __init__(self, at):
        self.at = at


class InvalidStretches(HallError):
    """Stretches of ticks that are wrong."""

    def __init__(self, at):
        self.at = at


class InvalidTable(HallError):
    """A table of costs with a wrong row."""

    def __init__(self, at):
        self.at = at


class InvalidGoods(HallError):
    """Goods that are wrong."""

    def __init__(self, at):
        self.at = at


class InvalidStock(HallError):
    """A book of stock that is wrong."""

    def __init__(self, at):
        self.at = at


class InvalidDeeds(HallError):
    """Deeds that are wrong."""

    def __init__(self, at):
        self.at = at


class InvalidWants(HallError):
    """Wants that are wrong."""

    def __init__(self, at):
        self.at = at


class InvalidComings(HallError):
    """Comings that are wrong."""

    def __init__(self, at):
        self.at = at


class InvalidLots(HallError):
    """Lots of goods that are wrong."""

    def __init__(self, at):
        self.at = at


class InvalidLines(HallError):
    """Lines of an order that are wrong."""

    def __init__(self, at):
        self.at = at


class InvalidHomes(HallError):
    """Homes of goods that are wrong."""

    def __init__(self, at):
        self.at = at


class InvalidLanes(HallError):
    """Lanes that are wrong."""

    def __init__(self, at):
        self.at = at


class InvalidPrices(HallError):
    """Prices that are wrong."""

    def __init__(self, at):
        self.at = at


class InvalidRoutes(HallError):
    """Routes that are wrong."""

    def __init__(self, at):
        self.at = at


class InvalidPicture(HallError):
    """A picture of nothing."""

    def __init__(self, at):
        self.at = at


class InvalidIndex(HallError):
    """A number of something that is not there."""

    def __init__(self, at):
        self.at = at


class Refused(HallError):
    """What cannot be done as things are."""

    def __init__(self, at):
        self.at = at


class InvalidSize(HallError):
    """An argument, told by its word, that is not of the size or sort asked for."""

    def __init__(self, word):
        self.word = word


class NoRobot(HallError):
    """A number that is no robot's."""

    def __init__(self, robot):
        self.robot = robot


class InvalidCommand(HallError):
    """A command that has no form that the desk knows."""
