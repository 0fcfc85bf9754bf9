"""What a world holds: its processes, and the signals on their way between them."""

# Stands where a cut's number would: those begin at 1.
HOLDS = 0


class Process:
    def __init__(self):
        self.living = True
        self.why = 0
        self.traps = False
        # To whom: HOLDS, or the number of its cut.
        self.links = {}
        # Number: whom it watches. The order of the keys is the one in which it began to.
        self.watches = {}
        # Number: whose the watch is. The order of the keys is the one in which they came.
        self.watchers = {}
        # Its box: each note is three numbers, the oldest stands first.
        self.notes = []

    def holds_link(self, q):
        return q in self.links and self.links[q] == HOLDS


class World:
    def __init__(self):
        self.processes = {}
        # Each is from whom, to whom, and the signal as it is told; what was sent first stands first.
        self.signals = []
        self.last_begun = 0

    def add_process(self):
        # An ended process stays, so that its number is not given again.
        number = len(self.processes) + 1
        self.processes[number] = Process()
        return number

    def begin_number(self):
        # Cuts and watches share one row of numbers.
        self.last_begun += 1
        return self.last_begun

    def send(self, p, q, signal):
        self.signals.append((p, q, signal))

    def place_of_first(self, p, q):
        for place, sent in enumerate(self.signals):
            if sent[0] == p and sent[1] == q:
                return place
        return None
