"""The document's words once more, as slowly and plainly as can be, over bytes and sets.

Nothing is shared with the package, so that both are unlikely to be wrong in the same way.
"""

END = 256


class Oracle:
    def __init__(self, nonterminals, rules):
        self.nonterminals = nonterminals
        self.rules = [(a, [tuple(s) for s in symbols]) for a, symbols in rules]
        self.whole_grammar = self.rules + [(None, [(0, 0)])]
        self.classes = self.find_classes()
        self.states, self.moves = self.find_states()
        self.find_sets()

    def find_classes(self):
        ranges = {s for a, symbols in self.rules for s in symbols if s[0] == 1}
        classes = []
        before = set()
        for b in range(256):
            here = {s for s in ranges if s[1] <= b <= s[2]}
            if here and here == before:
                classes[-1] = (classes[-1][0], b)
            elif here:
                classes.append((b, b))
            before = here
        return classes

    def behind(self, item):
        return self.whole_grammar[item[0]][1][item[1]:]

    def closing(self, kernel):
        state = set(kernel)
        while True:
            wanted = {self.behind(item)[0][1] for item in state
                      if self.behind(item) and self.behind(item)[0][0] == 0}
            more = {(k, 0) for k, rule in enumerate(self.rules) if rule[0] in wanted}
            if more <= state:
                return frozenset(state)
            state |= more

    def target(self, state, fits):
        kernel = [(rule, place + 1) for rule, place in state
                  if self.behind((rule, place)) and fits(self.behind((rule, place))[0])]
        return self.closing(kernel) if kernel else None

    def moves_from(self, state):
        moves = []
        for n in range(self.nonterminals):
            moves.append((0, n, self.target(state, lambda s: s == (0, n))))
        for c, (first, last) in enumerate(self.classes):
            fits = lambda s: s[0] == 1 and s[1] <= first and last <= s[2]
            moves.append((1, c, self.target(state, fits)))
        return [move for move in moves if move[2] is not None]

    def find_states(self, most=400):
        states = [self.closing([(len(self.rules), 0)])]
        moves = []
        while len(moves) < len(states) <= most:
            told = []
            for kind, number, state in self.moves_from(states[len(moves)]):
                if state not in states:
                    states.append(state)
                told.append((kind, number, states.index(state)))
            moves.append(told)
        return states, moves

    def complete(self, i):
        return sorted(rule for rule, place in self.states[i] if not self.behind((rule, place)))

    # Sets of nonterminals, first and follow.

    def find_sets(self):
        self.hollow = self.least(lambda s, found: s[0] == 0 and s[1] in found)
        self.productive = self.least(lambda s, found: s[0] == 1 or s[1] in found)
        fruitful = [(a, symbols) for a, symbols in self.rules
                    if all(s[0] == 1 or s[1] in self.productive for s in symbols)]
        reachable = {0}
        while True:
            more = {s[1] for a, symbols in fruitful if a in reachable for s in symbols if s[0] == 0}
            if more <= reachable:
                break
            reachable |= more
        self.useful = [rule for rule in fruitful if rule[0] in reachable]
        self.first = {n: set() for n in range(self.nonterminals)}
        self.until_still(self.first, lambda: [
            (a, self.begins(symbols)) for a, symbols in fruitful])
        self.follow = {n: set() for n in range(self.nonterminals)}
        if 0 in self.productive:
            self.follow[0].add(END)
        self.until_still(self.follow, self.follow_steps)

    def least(self, fits):
        found = set()
        while True:
            more = {a for a, symbols in self.rules if all(fits(s, found) for s in symbols)}
            if more <= found:
                return found
            found |= more

    @staticmethod
    def until_still(sets, steps):
        grown = True
        while grown:
            grown = False
            for key, more in steps():
                if not more <= sets[key]:
                    sets[key] |= more
                    grown = True

    def begins(self, symbols):
        found = set()
        for s in symbols:
            found |= set(range(s[1], s[2] + 1)) if s[0] == 1 else self.first[s[1]]
            if s[0] == 1 or s[1] not in self.hollow:
                break
        return found

    def follow_steps(self):
        steps = []
        for a, symbols in self.useful:
            for k, s in enumerate(symbols):
                if s[0] == 0:
                    rest = symbols[k + 1:]
                    more = self.begins(rest)
                    if all(t[0] == 0 and t[1] in self.hollow for t in rest):
                        more |= self.follow[a]
                    steps.append((s[1], more))
        return steps

    def class_of(self, b):
        for c, (first, last) in enumerate(self.classes):
            if first <= b <= last:
                return c
        return None

    def things(self, i, b):
        found = [(0, state) for kind, number, state in self.moves[i]
                 if kind == 1 and b != END and number == self.class_of(b)]
        for rule in self.complete(i):
            if rule == len(self.rules):
                found += [(2, 0)] if b == END else []
            elif b in self.follow[self.rules[rule][0]]:
                found.append((1, rule))
        return found

    def conflicts(self):
        columns = [first for first, last in self.classes] + [END]
        counts = [(i, c, len(self.things(i, b))) for i in range(len(self.states)) for c, b in enumerate(columns)]
        return [one for one in counts if one[2] > 1]

    def go(self, i, symbols):
        for k, (kind, number) in enumerate(symbols):
            wanted = (kind, self.class_of(number) if kind == 1 else number)
            targets = [state for kind, number, state in self.moves[i] if (kind, number) == wanted]
            if not targets:
                return [1, k]
            i = targets[0]
        return [0, i]

    def parse(self, text):
        if self.conflicts():
            return [-7]
        row, place, rules = [0], 0, []
        for step in range(4000):
            things = self.things(row[-1], text[place] if place < len(text) else END)
            if not things:
                return [1, place]
            kind, number = things[0]
            if kind == 2:
                return [0, len(rules)] + rules
            if kind == 0:
                row.append(number)
                place += 1
                continue
            a, symbols = self.rules[number]
            for s in symbols:
                row.pop()
            # A rule comes in only where its nonterminal is some item's next symbol.
            target, = [state for k, n, state in self.moves[row[-1]] if (k, n) == (0, a)]
            row.append(target)
            rules.append(number)
        return [-8]

    def reads(self, text):
        """Whether the start covers all of the text, by pieces and not by the table."""
        size = len(text)
        covered = set()

        def ends(symbols, i):
            places = {i}
            for s in symbols:
                if s[0] == 1:
                    places = {j + 1 for j in places if j < size and s[1] <= text[j] <= s[2]}
                else:
                    places = {k for j in places for k in range(j, size + 1) if (s[1], j, k) in covered}
            return places

        while True:
            more = {(a, i, j) for a, symbols in self.rules
                    for i in range(size + 1) for j in ends(symbols, i)}
            if more <= covered:
                return (0, 0, size) in covered
            covered |= more


class Model:
    """The object, with all ten calls; a call is its name and its arguments."""

    def __init__(self):
        self.held = Oracle(1, [])

    def answer(self, name, *arguments):
        return getattr(self, name)(*arguments)

    def grammar_of(self, row):
        """None if it is no grammar row; takes the row apart number by number."""
        left = list(row)
        try:
            nonterminals, count = left.pop(0), left.pop(0)
            fits = 1 <= nonterminals <= 20 and 0 <= count <= 60
            rules = []
            while fits and len(rules) < count:
                a, size = left.pop(0), left.pop(0)
                fits = a < nonterminals and size <= 8
                symbols = []
                while fits and len(symbols) < size:
                    kind = left.pop(0)
                    symbols.append((kind, left.pop(0)) if kind != 1 else (kind, left.pop(0), left.pop(0)))
                    fits = (kind == 0 and symbols[-1][1] < nonterminals
                            or kind == 1 and symbols[-1][1] <= symbols[-1][2] <= 255)
                rules.append((a, symbols))
        except IndexError:
            return None
        return (nonterminals, rules) if fits and not left else None

    def load(self, row):
        if any(number < 0 for number in row):
            return [-1]
        grammar = self.grammar_of(row)
        if grammar is None:
            return [-2]
        made = Oracle(*grammar)
        if len(made.states) > 128:
            return [-6]
        self.held = made
        return [0, len(made.states)]

    def told(self, tuples):
        return [0, len(tuples)] + [number for one in tuples for number in one]

    def is_state(self, i):
        return i in range(len(self.held.states))

    def classes(self):
        return self.told(self.held.classes)

    def states(self):
        return [0, len(self.held.states)]

    def items(self, i):
        return self.told(sorted(self.held.states[i])) if self.is_state(i) else [-4]

    def moves(self, i):
        return self.told(self.held.moves[i]) if self.is_state(i) else [-4]

    def complete(self, i):
        return self.told([(rule,) for rule in self.held.complete(i)]) if self.is_state(i) else [-4]

    def acts(self, i, b):
        if not self.is_state(i):
            return [-4]
        return self.told(self.held.things(i, b)) if b in range(257) else [-5]

    def go(self, i, symbols):
        if any(number < 0 for number in symbols):
            return [-1]
        if len(symbols) > 200:
            return [-3]
        if not self.is_state(i):
            return [-4]
        parted = list(zip(symbols[::2], symbols[1::2]))
        fits = all(kind == 0 and number < self.held.nonterminals or kind == 1 and number < 256
                   for kind, number in parted)
        return self.held.go(i, parted) if fits and len(symbols) == 2 * len(parted) else [-5]

    def conflicts(self):
        return self.told(self.held.conflicts())

    def parse(self, text):
        if any(number not in range(256) for number in text):
            return [-1]
        return [-3] if len(text) > 200 else self.held.parse(text)
