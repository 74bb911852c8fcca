"""A house played by the words of the document, slowly: nothing is kept that the log tells."""

from callbells import errors


class SlowHouse:
    def __init__(self, setup, count, routes=(), storms=()):
        self.lines = {line[0]: line for line in setup.lines}
        self.works = {work[0]: work for work in setup.works}
        self.order = sorted(self.lines, key=lambda name: (-self.lines[name][2], name))
        self.count = count
        self.routes = {name: ("first", tuple(range(count))) for name in self.lines}
        self.routes.update({route[0]: route[1:] for route in routes})
        self.storms = {storm[0]: storm[1:] for storm in storms}
        self.now = 0
        self.log = []
        self.rings = []
        self.fates = []
        self.states = ["on"] * count
        self.flags = set()
        self.masked = set()
        self.high = set()
        # Edges that wait, with the numbers of their rings.
        self.waiting = {}
        self.places = {}
        self.last_turns = {}
        self.calls = [[] for _ in range(count)]
        self.bars = [0] * count
        self.queues = [[] for _ in range(count)]
        self.queued = 0

    # What is told.

    def is_edge(self, line):
        return self.lines[line][1] == "edge"

    def owner(self, line):
        owners = [p for p in range(self.count) if line in [call["line"] for call in self.calls[p]]]
        assert len(owners) < 2
        return owners[0] if owners else None

    def waits(self, line):
        if self.is_edge(line):
            return line in self.waiting
        return line in self.high and self.owner(line) is None

    def held(self, line):
        untils = [event[1] + self.storms[line][2] for event in self.log if event[0] == "held" and event[2] == line]
        return max(untils) if untils and max(untils) >= self.now else None

    def line_row(self, line):
        signs = (line not in self.masked, line in self.high, self.waits(line))
        return signs + (self.places.get(line), self.owner(line), self.held(line))

    def processor_row(self, p):
        works = [row[0] for row in self.sorted_works(p)]
        return (self.states[p], self.bars[p], tuple(call["line"] for call in self.calls[p]), tuple(works))

    def fate(self, number):
        fate = self.fates[number]
        return ("waits", self.places.get(self.rings[number][1])) if fate is None else fate

    def counts(self, word, names):
        return {name: len([event for event in self.log if event[0] == word and event[2] == name]) for name in names}

    # Deeds.

    def check_line(self, line):
        if line not in self.lines:
            raise errors.UnknownLine(line)

    def check_processor(self, p):
        if p not in range(self.count):
            raise errors.UnknownProcessor(p)

    def check_flag(self, flag):
        if flag not in range(8):
            raise errors.InvalidFlag("")

    def ring(self, line):
        self.check_line(line)
        if not self.is_edge(line):
            word = "merged" if line in self.high else "waits"
            self.high.add(line)
            return word
        self.rings.append((self.now, line))
        if line in self.waiting:
            self.fates.append(("merged", self.waiting[line]))
            return "merged"
        self.waiting[line] = len(self.fates)
        self.fates.append(None)
        return "waits"

    def quiet(self, line):
        self.check_line(line)
        if self.is_edge(line):
            raise errors.NotLevel(line)
        was = line in self.high
        self.high.discard(line)
        self.places.pop(line, None)
        return was

    def mask(self, line):
        self.check_line(line)
        was = line in self.masked
        self.masked.add(line)
        return not was

    def unmask(self, line):
        self.check_line(line)
        was = line in self.masked
        self.masked.discard(line)
        return was

    def set_flag(self, flag):
        self.check_flag(flag)
        was = flag in self.flags
        self.flags.add(flag)
        return not was

    def clear_flag(self, flag):
        self.check_flag(flag)
        was = flag in self.flags
        self.flags.discard(flag)
        return was

    def on(self):
        return [p for p in range(self.count) if self.states[p] == "on"]

    def leave(self, p):
        self.check_processor(p)
        if p not in self.on():
            raise errors.NotOn("")
        if self.on() == [p]:
            raise errors.LastOne("")
        self.states[p] = "leaving"
        lines = [line for line in self.order if self.places.get(line) == p]
        for line in lines:
            del self.places[line]
        return lines

    def come(self, p):
        self.check_processor(p)
        if p in self.on():
            raise errors.AlreadyOn("")
        was = self.states[p]
        self.states[p] = "on"
        return was == "leaving"

    def move(self, line, p):
        self.check_line(line)
        self.check_processor(p)
        if not self.waits(line) or self.owner(line) is not None:
            raise errors.NotWaiting("")
        if p not in self.routes[line][1] or p not in self.on():
            raise errors.NotAllowed("")
        was = self.places.get(line)
        self.put(line, p)
        return was

    def put(self, line, p):
        self.places[line] = p
        self.log.append(("place", self.now, line, p))

    # Ticks.

    def tick(self):
        start = len(self.log)
        self.place_all()
        for p in range(self.count):
            if self.states[p] == "on":
                self.take(p)
        for p in range(self.count):
            if self.states[p] != "off":
                self.go_on(p)
        for p in range(self.count):
            if self.states[p] == "leaving" and not self.calls[p]:
                self.let_off(p)
        self.now += 1
        return self.log[start:]

    def ticks(self, count):
        return [event for _ in range(count) for event in self.tick()]

    def can_begin(self, line):
        return self.waits(line) and line not in self.masked and self.owner(line) is None

    def place_all(self):
        for line in self.order:
            if self.can_begin(line) and line not in self.places and self.held(line) is None:
                p = self.chosen(line)
                if p is not None:
                    self.put(line, p)

    def load(self, p):
        return len(self.calls[p]) + len([line for line in self.places if self.places[line] == p])

    def chosen(self, line):
        rule, route = self.routes[line]
        if rule == "turn":
            last = self.last_turns.get(line, -1)
            route = route[last + 1:] + route[:last + 1]
        running = [p for p in route if self.states[p] == "on"]
        if not running:
            return None
        if rule == "least":
            running.sort(key=self.load)
        if rule == "turn":
            self.last_turns[line] = self.routes[line][1].index(running[0])
        return running[0]

    def floor(self, p):
        ranks = [self.lines[call["line"]][2] for call in self.calls[p][-1:]]
        return max([self.bars[p]] + ranks)

    def take(self, p):
        lines = [line for line in self.order if self.places.get(line) == p and self.can_begin(line)]
        if not lines or self.lines[lines[0]][2] <= self.floor(p):
            return
        line = lines[0]
        del self.places[line]
        if self.is_edge(line):
            self.fates[self.waiting.pop(line)] = ("served", self.now, p)
        self.calls[p].append({"line": line, "step": 0, "ticks": 0, "bar": self.bars[p]})
        self.log.append(("begin", self.now, line, p))
        if line in self.storms:
            most, window, _ = self.storms[line]
            begins = [event for event in self.log if event[0] == "begin" and event[2] == line]
            if len([event for event in begins if event[1] >= self.now - (window - 1)]) > most:
                self.log.append(("held", self.now, line))
        self.do_steps(p)

    def step(self, p):
        call = self.calls[p][-1]
        return self.lines[call["line"]][3][call["step"]]

    def do_steps(self, p):
        """All steps of the innermost call up to one that takes a tick."""
        call = self.calls[p][-1]
        while call["step"] < len(self.lines[call["line"]][3]):
            word, what = self.step(p)
            if word == "run" or word == "await" and what not in self.flags:
                return
            self.do_step(p, word, what)
            call["step"] += 1
        self.calls[p].pop()
        self.bars[p] = call["bar"]
        self.log.append(("end", self.now, call["line"], p))

    def do_step(self, p, word, what):
        if word == "bar":
            self.bars[p] = what
        elif word == "later":
            self.queue(p, what, 0)
        elif word == "set":
            self.set_flag(what)
        elif word == "clear":
            self.clear_flag(what)
        elif word != "await":
            getattr(self, word)(what)

    def queue(self, p, work, ticks):
        if ticks or [work, 0] not in [row[:2] for row in self.queues[p]]:
            self.queues[p].append([work, ticks, self.queued])
            self.queued += 1

    def sorted_works(self, p):
        return sorted(self.queues[p], key=lambda row: (-self.works[row[0]][1], row[2]))

    def go_on(self, p):
        while self.calls[p] and self.step(p)[0] == "await" and self.step(p)[1] in self.flags:
            self.do_steps(p)
        if self.calls[p]:
            word, what = self.step(p)
            if word == "run":
                call = self.calls[p][-1]
                call["ticks"] += 1
                if call["ticks"] == what:
                    call["step"] += 1
                    call["ticks"] = 0
                    self.do_steps(p)
        elif self.queues[p]:
            row = self.sorted_works(p)[0]
            row[1] += 1
            if row[1] == self.works[row[0]][2]:
                self.queues[p].remove(row)
                self.log.append(("done", self.now, row[0], p))

    def let_off(self, p):
        self.states[p] = "off"
        self.log.append(("off", self.now, p))
        target = sorted(self.on(), key=lambda at: len(self.queues[at]))[0]
        for work, ticks, _ in self.sorted_works(p):
            self.queue(target, work, ticks)
            self.log.append(("moved", self.now, work, target))
        self.queues[p] = []
