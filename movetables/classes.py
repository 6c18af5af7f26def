"""The classes of a grammar: the parts into which the ends of its ranges cut the bytes."""

from movetables.grammar import RANGE, THE_END


def ranges_of(rules):
    ranges = []
    for rule in rules:
        ranges.extend([symbol for symbol in rule[1] if symbol[0] == RANGE])
    return ranges


# For each cut, how many more ranges lie behind it than before it. A cut at which as many
# ranges begin as end stays with 0: it parts two classes all the same.
def changes_at_cuts(ranges):
    changes = {}
    for symbol in ranges:
        begin = symbol[1]
        behind = symbol[2] + 1
        changes[begin] = changes.get(begin, 0) + 1
        changes[behind] = changes.get(behind, 0) - 1
    return changes


# Each class as its first and last byte, ascending.
def classes_of(rules):
    changes = changes_at_cuts(ranges_of(rules))
    cuts = sorted(changes)
    classes = []
    depth = 0
    for number in range(len(cuts) - 1):
        depth = depth + changes[cuts[number]]
        if depth > 0:
            classes.append((cuts[number], cuts[number + 1] - 1))
    return classes


# For each byte the class in which it lies, None if it lies in none; and for the end how many
# classes there are.
def columns_of(classes):
    columns = [None] * THE_END
    for number, bounds in enumerate(classes):
        for byte in range(bounds[0], bounds[1] + 1):
            columns[byte] = number
    columns.append(len(classes))
    return columns


# The rules with each range told by its first and last class instead of bytes: a range is made
# of whole classes, so that from here on nothing needs the bytes.
def rules_over_classes(rules, classes):
    first_class = {}
    last_class = {}
    for number, bounds in enumerate(classes):
        first_class[bounds[0]] = number
        last_class[bounds[1]] = number
    changed = []
    for rule in rules:
        symbols = [symbol_over_classes(symbol, first_class, last_class) for symbol in rule[1]]
        changed.append((rule[0], tuple(symbols)))
    return changed


def symbol_over_classes(symbol, first_class, last_class):
    if symbol[0] == RANGE:
        return (RANGE, first_class[symbol[1]], last_class[symbol[2]])
    return symbol
