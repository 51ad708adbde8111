"""A desk: a program is put together, led to a net, and looked at, line by line."""

from lookmade.deeds import WIRES
from lookmade.errors import Misfit, Nothing, TooMany
from lookmade.lesser import lesser
from lookmade.lines import read_line
from lookmade.lots import lots_of
from lookmade.made import lots_for, net_of
from lookmade.pictures import course, picture
from lookmade.players import Player
from lookmade.programs import MOST_WIRES, Program
from lookmade.reckoning import NOTHING, length_in
from lookmade.spreads import of_bits
from lookmade.wanted import want_number

MOST_LINES = 200
# The lines that are kept, beside those of deeds.
KEPT = ("net", "lesser", "look")
# The lines that are told of a net.
OF_NETS = ("lesser", "look", "ready", "ask", "live", "end", "picture", "course")


def in_a_row(numbers):
    """The numbers with blanks between, - for none."""
    return " ".join([str(number) for number in numbers]) if numbers else "-"


def side_by_side(parts):
    """The parts with strokes between, - for none."""
    return " / ".join(parts) if parts else "-"


def is_kept(word):
    """Whether a line with this word is kept."""
    return word in WIRES or word in KEPT


class Desk:
    """Is told lines, keeps those that do something, and answers."""

    def __init__(self, wires):
        want_number(wires, "wires", 1, MOST_WIRES)
        self.wires = wires
        self.log = ()
        self._deeds = ()
        # The net that was taken, its Lots, and the spread on which a player begins.
        self._taken = None
        self._player = None
        # The deeds, and what was taken, before each line of the log.
        self._past = ()
        # The lines that were taken back and may be told again, the last one last.
        self._back = ()

    def tell(self, line):
        """The answer to a line."""
        told = read_line(line, self.wires)
        self._want_time(told[0])
        if told[0] == "undo":
            return self._undo()
        if told[0] == "again":
            return self._again()
        if not is_kept(told[0]):
            return self._answer(told)
        before = (self._deeds, self._taken)
        answer = self._do(told)
        self.log = (*self.log, line)
        self._past = (*self._past, before)
        self._back = ()
        return answer

    def _want_time(self, word):
        """Raises what a line with this word raises if it comes at the wrong time."""
        if is_kept(word) and len(self.log) >= MOST_LINES:
            raise TooMany("lines", MOST_LINES)
        if (word in WIRES or word == "net") and self._taken is not None:
            raise Misfit("net")
        if word in OF_NETS and self._taken is None:
            raise Misfit("net")
        if word == "lesser" and len(self._player.heard) > 0:
            raise Misfit("looked")
        if (word == "undo" and len(self.log) == 0) or (word == "again" and len(self._back) == 0):
            raise Nothing()

    def _do(self, told):
        """Does what a line asks for that is kept."""
        if told[0] in WIRES:
            self._deeds = (*self._deeds, told)
            return str(len(self._deeds))
        if told[0] == "look":
            return str(self._player.look(told[1], told[2]))
        if told[0] == "net":
            program = Program(self.wires, self._deeds)
            self._take(net_of(program), lots_for(program), of_bits(told[1:]))
        else:
            net, _, spread = self._taken
            less = lesser(net).net
            self._take(less, lots_of(less), spread)
        net, paper, _ = self._taken
        return in_a_row((net.things, len(net.strings), len(paper.layers)))

    def _take(self, net, paper, spread):
        """Takes a net with its Lots, and lets a player begin on the spread."""
        self._player = Player(net, paper, spread)
        self._taken = (net, paper, spread)

    def _undo(self):
        """Takes back what the last line of the log did, and returns this line."""
        line = self.log[-1]
        heard = () if self._player is None else self._player.heard[:-1]
        self._deeds, self._taken = self._past[-1]
        self._player = None
        if self._taken is not None:
            net, paper, spread = self._taken
            self._take(net, paper, spread)
            for thing, fall in heard:
                self._player.look(thing, fall)
        self.log = self.log[:-1]
        self._past = self._past[:-1]
        self._back = (*self._back, line)
        return line

    def _again(self):
        """Tells the line again that was taken back last, and returns its answer."""
        rest = self._back[:-1]
        answer = self.tell(self._back[-1])
        self._back = rest
        return answer

    def _answer(self, told):
        """The answer to a line that is not kept."""
        if told[0] == "log":
            return side_by_side(self.log)
        if told[0] == "program":
            return side_by_side([in_a_row(deed) for deed in self._deeds])
        if told[0] == "ready":
            return in_a_row(self._player.ready())
        if told[0] == "ask":
            return str(self._player.asks(told[1]))
        if told[0] == "live":
            return f"{in_a_row(self._player.live)} : {self._player.most}"
        if told[0] == "end":
            return self._end()
        net, paper, _ = self._taken
        if told[0] == "picture":
            return side_by_side(picture(net, paper))
        return side_by_side(course(net, paper, self._player.heard))

    def _end(self):
        """What the end is told by: the numbers of its amounts that are not nothing, with their lengths."""
        # A kept thing of these nets was given, or has a looked neighbour: the end makes none, so live stays.
        found = [(at, length_in(amount)) for at, amount in enumerate(self._player.end()) if amount != NOTHING]
        return side_by_side([in_a_row((at, *pair)) for at, pair in found])
