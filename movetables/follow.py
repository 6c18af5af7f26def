"""What follows each nonterminal, as far as useful rules make it.

A set of classes is one whole number: class c counts 1 << c, and the end counts as the class
behind the last one. So joining two sets is one step, however many classes there are.
"""

from movetables.grammar import NONTERMINAL, RANGE


# The rules of the grammar itself, without rule number R.
def own_rules(table):
    return table.rules[:-1]


def end_column(table):
    return len(table.classes)


# The bits of a range's classes.
def span_bits(symbol):
    return (1 << (symbol[2] + 1)) - (1 << symbol[1])


# With ranges counted as covered: the productive nonterminals; without: the hollow ones.
def nonterminals_covering(table, with_ranges):
    covering = [False] * table.nonterminals
    changed = True
    while changed:
        changed = False
        for rule in own_rules(table):
            if not covering[rule[0]] and all_covered(rule, covering, with_ranges):
                covering[rule[0]] = True
                changed = True
    return covering


def all_covered(rule, covering, with_ranges):
    return all([with_ranges if symbol[0] == RANGE else covering[symbol[1]] for symbol in rule[1]])


def productive_rules(table):
    productive = nonterminals_covering(table, True)
    return [rule for rule in own_rules(table) if all_covered(rule, productive, True)]


def reachable_nonterminals(productive):
    reachable = {0: True}
    waiting = [0]
    while waiting:
        nonterminal = waiting.pop()
        for rule in productive:
            if rule[0] == nonterminal:
                for symbol in rule[1]:
                    if symbol[0] == NONTERMINAL and symbol[1] not in reachable:
                        reachable[symbol[1]] = True
                        waiting.append(symbol[1])
    return reachable


# What may stand ahead of a place, if tail may stand behind it and the symbol between.
def ahead_of(symbol, tail, first, hollow):
    if symbol[0] == RANGE:
        return span_bits(symbol)
    if hollow[symbol[1]]:
        return first[symbol[1]] | tail
    return first[symbol[1]]


def first_sets(table, productive, hollow):
    first = [0] * table.nonterminals
    changed = True
    while changed:
        changed = False
        for rule in productive:
            begins = 0
            for symbol in reversed(rule[1]):
                begins = ahead_of(symbol, begins, first, hollow)
            if (first[rule[0]] | begins) != first[rule[0]]:
                first[rule[0]] = first[rule[0]] | begins
                changed = True
    return first


# Goes through a rule from its end; says whether a set has grown.
def follow_in_rule(rule, follow, first, hollow):
    grown = False
    tail = follow[rule[0]]
    for symbol in reversed(rule[1]):
        if symbol[0] == NONTERMINAL and (follow[symbol[1]] | tail) != follow[symbol[1]]:
            follow[symbol[1]] = follow[symbol[1]] | tail
            grown = True
        tail = ahead_of(symbol, tail, first, hollow)
    return grown


# For each nonterminal the set of what follows it.
def follow_sets(table):
    productive = productive_rules(table)
    reachable = reachable_nonterminals(productive)
    useful = [rule for rule in productive if rule[0] in reachable]
    hollow = nonterminals_covering(table, False)
    first = first_sets(table, productive, hollow)
    follow = [0] * table.nonterminals
    # The start is reachable, so a productive rule of it is all that it takes to be useful.
    if any([rule[0] == 0 for rule in useful]):
        follow[0] = 1 << end_column(table)
    changed = True
    while changed:
        changed = False
        for rule in useful:
            if follow_in_rule(rule, follow, first, hollow):
                changed = True
    return follow
