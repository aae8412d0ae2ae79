"""The errors of this package.

An error keeps what it is made with: `given` is the whole value that was passed,
`index` the index of the first wrong element, or None.
"""


class CrawlError(ValueError):
    """Any error that this package tells."""


class InvalidName(CrawlError):
    """The value is no name."""

    def __init__(self, given):
        self.given = given


class InvalidPath(CrawlError):
    """The value is no path."""

    def __init__(self, given):
        self.given = given


class InvalidPattern(CrawlError):
    """The value is no pattern."""

    def __init__(self, given):
        self.given = given


class InvalidNumber(CrawlError):
    """The value is no whole number, or one out of its bounds."""

    def __init__(self, given):
        self.given = given


class InvalidFraction(CrawlError):
    """The value is no fraction."""

    def __init__(self, given):
        self.given = given


class InvalidLimits(CrawlError):
    """The value is no LIMITS."""

    def __init__(self, given):
        self.given = given


class InvalidHours(CrawlError):
    """The value is no HOURS."""

    def __init__(self, given):
        self.given = given


class InvalidRules(CrawlError):
    """The value is no RULES."""

    def __init__(self, given):
        self.given = given


class InvalidCounts(CrawlError):
    """The value is no COUNTS that fit the limits."""

    def __init__(self, given):
        self.given = given


class InvalidAddress(CrawlError):
    """The value is no address."""

    def __init__(self, given):
        self.given = given


class InvalidMoment(CrawlError):
    """The value is no moment, or one out of its bounds."""

    def __init__(self, given):
        self.given = given


class InvalidAnswer(CrawlError):
    """The value is no answer."""

    def __init__(self, given):
        self.given = given


class InvalidRow(CrawlError):
    """The value is no row of a log."""

    def __init__(self, given):
        self.given = given


class InvalidCrawl(CrawlError):
    """The value is no crawl."""

    def __init__(self, given):
        self.given = given


class InvalidEvent(CrawlError):
    """The value is no event of a row."""

    def __init__(self, given):
        self.given = given


class InvalidSetup(CrawlError):
    """The value is no set-up."""

    def __init__(self, given):
        self.given = given


class InvalidStanding(CrawlError):
    """The value is no standing of the set-up."""

    def __init__(self, given):
        self.given = given


class InvalidAct(CrawlError):
    """The value is no act that is let there."""

    def __init__(self, given):
        self.given = given


class InvalidTable(CrawlError):
    """The value is no potential table that the judge takes."""

    def __init__(self, given):
        self.given = given


class InvalidRing(CrawlError):
    """The value is no ring."""

    def __init__(self, given):
        self.given = given


class InvalidPatterns(CrawlError):
    """These are no patterns."""

    def __init__(self, index):
        self.index = index


class InvalidPaths(CrawlError):
    """These are no path rows."""

    def __init__(self, index):
        self.index = index


class InvalidFile(CrawlError):
    """This is no file."""

    def __init__(self, index):
        self.index = index


class InvalidAsks(CrawlError):
    """These are no asks."""

    def __init__(self, index):
        self.index = index


class InvalidParts(CrawlError):
    """These are no parts."""

    def __init__(self, index):
        self.index = index


class InvalidRows(CrawlError):
    """These are no rows of parts."""

    def __init__(self, index):
        self.index = index


class NotPolite(CrawlError):
    """These asks are not polite."""

    def __init__(self, index):
        self.index = index


class InvalidLine(CrawlError):
    """This is no text that can be read."""

    def __init__(self, index):
        self.index = index


class InvalidWorld(CrawlError):
    """This is no world."""

    def __init__(self, index):
        self.index = index


class InvalidTask(CrawlError):
    """This is no task."""

    def __init__(self, index):
        self.index = index


class InvalidLog(CrawlError):
    """This is no log."""

    def __init__(self, index):
        self.index = index


class InvalidJournal(CrawlError):
    """This is no journal."""

    def __init__(self, index):
        self.index = index


class InvalidCopies(CrawlError):
    """These are no copies."""

    def __init__(self, index):
        self.index = index


class InvalidSeeds(CrawlError):
    """These are no seeds."""

    def __init__(self, index):
        self.index = index


class InvalidPast(CrawlError):
    """These are no asks that were made earlier."""

    def __init__(self, index):
        self.index = index


class InvalidDeeds(CrawlError):
    """These are no deeds."""

    def __init__(self, index):
        self.index = index


class InvalidActs(CrawlError):
    """These are no acts."""

    def __init__(self, index):
        self.index = index


class Barred(CrawlError):
    """The limits or hours do not let so many asks at this moment."""


class NoShare(CrawlError):
    """A share would be no pair of LIMITS."""


class TooMany(CrawlError):
    """There would be more of something than there may be."""


class NotNow(CrawlError):
    """This cannot be done at this moment."""
