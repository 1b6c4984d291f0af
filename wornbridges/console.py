"""The console: traffic that is led by lines of text."""

from wornbridges.counts import crossings, failures
from wornbridges.errors import InvalidCount, InvalidLife, NoTransaction, UnknownBridge
from wornbridges.traffic import Traffic
from wornbridges.words import read_numbers

# The form of the lines that begin with a word.
FORMS = {
    "go": "go N",
    "close": "close N",
    "mend": "mend N by N",
    "lives": "lives",
    "route": "route N",
    "crossings": "crossings N N",
    "failures": "failures N",
    "begin": "begin",
    "commit": "commit",
    "rollback": "rollback",
}


def _copy_of(traffic):
    """Return traffic with the same town, round, changes and position."""
    copied = Traffic(traffic.town, traffic.trips)
    copied.moment = traffic.moment
    return copied


def _joined(word, numbers):
    """Return a word and numbers, separated by single spaces."""
    return " ".join([word] + [str(number) for number in numbers])


def _route_answer(route):
    """Return the answer that tells a route, or None for a trip that fails."""
    return "fails" if route is None else _joined("route", route)


class Console:
    """A console, which leads a copy of traffic, with transactions that can be taken back."""

    MAX_DEPTH = 8

    def __init__(self, traffic):
        self._traffic = _copy_of(traffic)
        # The moments of the traffic at which the open transactions began, the innermost one last.
        self._begun = []

    @property
    def depth(self):
        """Return the number of open transactions."""
        return len(self._begun)

    @property
    def led(self):
        """Return the traffic that the console leads."""
        return self._traffic

    def run(self, line):
        """Run a line and return its answer."""
        word = line.split(" ")[0]
        numbers = read_numbers(line, FORMS[word]) if word in FORMS else None
        if numbers is None:
            return "malformed"
        try:
            return self._done(word, numbers)
        except UnknownBridge:
            return "error bridge"
        except InvalidLife:
            return "error life"
        except NoTransaction:
            return "error transaction"
        except InvalidCount:
            return "error number"

    def answers(self, *lines):
        """Run lines one by one and yield their answers."""
        for line in lines:
            yield self.run(line)

    def _done(self, word, numbers):
        """Do what a line with a word and some numbers says, and return the answer."""
        match word:
            case "go" | "close" | "mend":
                return self._changed(word, numbers)
            case "begin" | "commit" | "rollback":
                return self._transacted(word)
            case _:
                return self._told(word, numbers)

    def _changed(self, word, numbers):
        """Set the position, or close or mend a bridge, and return the answer."""
        match word:
            case "go":
                self._traffic.go_to(numbers[0])
                return f"position {numbers[0]}"
            case "close":
                self._traffic.close(numbers[0])
                return f"closed {numbers[0]}"
            case _:
                self._traffic.mend(numbers[0], numbers[1])
                return f"mended {numbers[0]} by {numbers[1]}"

    def _told(self, word, numbers):
        """Return the answer to a line that changes nothing."""
        match word:
            case "lives":
                return _joined("lives", self._traffic.lives)
            case "route":
                return _route_answer(self._traffic.route_of(numbers[0]))
            case "crossings":
                return f"crossings {crossings(self._traffic, numbers[0], numbers[1])}"
            case _:
                return f"failures {failures(self._traffic, numbers[0])}"

    def _transacted(self, word):
        """Open or close a transaction, and return the answer."""
        if word == "begin":
            self._begin()
        elif word == "commit":
            self._end()
        else:
            traffic = self._traffic
            traffic.moment = self._end()
        return f"open {self.depth}"

    def _begin(self):
        """Open a transaction."""
        if self.depth == self.MAX_DEPTH:
            raise InvalidCount("too many transactions are open")
        self._begun.append(self._traffic.moment)

    def _end(self):
        """Close the innermost transaction, and return the moment at which it began."""
        if not self._begun:
            raise NoTransaction("no transaction is open")
        return self._begun.pop()
