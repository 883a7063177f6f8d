"""A panel's text, a list of bytes: read line by line into wires.

A hub is a tuple of its name and its numbers; a wire is a tuple of the hub that sends and the one that takes.
"""

MOST_WIRES = 256
LINE_END = 10
NOUGHT = 48
NINE = 57

# For each hub's name the greatest value of each of its numbers.
SENDERS = {
    "read": (79,), "send": (63,), "from": (255,), "upper": (63,), "lower": (63,),
    "hole": (63, 11), "chosen": (63,), "both": (63,),
}
TAKERS = {
    "to": (255,), "split": (63,), "look": (63,), "by": (63,), "plain": (63,),
    "other": (63,), "one": (63,), "two": (63,),
}


def lines_of(text):
    """The text parted behind each line end."""
    lines = []
    line = []
    for sign in text:
        line.append(sign)
        if sign == LINE_END:
            lines.append(line)
            line = []
    if len(line) > 0:
        lines.append(line)
    return lines


def shared_signs(line, at, word):
    """How many of the word's signs, from its first on, stand in the line from at on."""
    shared = 0
    for sign in word:
        if at + shared == len(line) or line[at + shared] != ord(sign):
            return shared
        shared += 1
    return shared


def is_figure(sign):
    return NOUGHT <= sign and sign <= NINE


class LineScan:
    """A line being read: the signs before place at are right; once something is not, nothing more is taken."""

    def __init__(self, line):
        self.line = line
        self.at = 0
        self.right = True

    def take_word(self, words):
        """The one of the words that stands here. None of them begins with another."""
        if not self.right:
            return ""
        longest = 0
        for word in words:
            shared = shared_signs(self.line, self.at, word)
            if shared == len(word):
                self.at += shared
                return word
            longest = max(longest, shared)
        self.at += longest
        self.right = False
        return ""

    def figure_here(self):
        return self.at < len(self.line) and is_figure(self.line[self.at])

    def take_number(self, most):
        """The number that stands here. As most is 9 or more, each first figure is right."""
        if not self.right or not self.figure_here():
            self.right = False
            return 0
        number = self.line[self.at] - NOUGHT
        self.at += 1
        # Behind a first nought no figure may follow: it would be needless.
        while number > 0 and self.figure_here():
            longer = 10 * number + self.line[self.at] - NOUGHT
            if longer > most:
                return number
            number = longer
            self.at += 1
        return number


def take_hub(scan, hubs):
    name = scan.take_word(list(hubs))
    hub = [name]
    for most in hubs.get(name, ()):
        scan.take_word([" "])
        hub.append(scan.take_number(most))
    return tuple(hub)


def take_wire(scan):
    sender = take_hub(scan, dict(SENDERS))
    scan.take_word([" > "])
    taker = take_hub(scan, dict(TAKERS))
    scan.take_word(["\n"])
    return (sender, taker)


def text_fault(text):
    """The fault of kind 1 or 2 as a list of three numbers; an empty list if all are lines."""
    for place, line in enumerate(lines_of(text)):
        if place == MOST_WIRES:
            return [2, place, 0]
        scan = LineScan(line)
        take_wire(scan)
        if not scan.right:
            return [1, place, scan.at]
    return []


def wires_of(text):
    """The wires of a text all of which are lines."""
    return [take_wire(LineScan(line)) for line in lines_of(text)]
