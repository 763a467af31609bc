"""Texts read another way than the program does: by patterns of whole rows, as [47] to [49] tell them.

Each reader tells ("no text",), or ("read", thing), the thing not held against anything.
"""

import re

NUMBER = r"(?:0|-?[1-9][0-9]{0,39})"
PLAIN = rf"(?:read {NUMBER}|(?:write|add|span) {NUMBER} {NUMBER}|swap {NUMBER} {NUMBER} {NUMBER})"
DEAL = PLAIN
for _ in range(4):
    DEAL = rf"(?:{PLAIN}|deal(?: \( {DEAL} \))*)"
CALL = DEAL
STEP = rf"(?:{CALL}|look {CALL}|lay(?: {NUMBER} {NUMBER})*)"
PART = rf"(?:got {NUMBER}|done|yes|no|refused)"
ANSWER = rf"(?:-|{PART}|all(?: {NUMBER})*|each(?: \( {PART} \))*)"
REASON = rf"(?:told|(?:through|only|first|apart) {NUMBER}|(?:late|early) {NUMBER} {NUMBER})"

DEED = re.compile(rf"({NUMBER}) ({NUMBER}) ({NUMBER}|-) ({CALL}) = ({ANSWER})")
ITEM = re.compile(rf"(must|may|out) ({STEP}) = ({ANSWER})")
NUMBERED = re.compile(rf"(first|before|apart|row|cases|inout)((?: {NUMBER})*)")
NODE = re.compile(rf"at((?: {NUMBER})*) :((?: {NUMBER}){{8}})")
RING = re.compile(rf"({NUMBER}) ({NUMBER}) ({REASON})")

NO_TEXT = ("no text",)


def numbers(words):
    return tuple(int(word) for word in words.split())


def worded(words):
    word, *rest = words.split()
    return (word,) + tuple(int(one) for one in rest)


def lots(words):
    """What stands between the outermost ( and ) of these words."""
    told, deep = [], 0
    for word in words.split()[1:]:
        deep -= word == ")"
        if deep:
            told[-1].append(word)
        elif word == "(":
            told.append([])
        deep += word == "("
    return [" ".join(lot) for lot in told]


def step(words):
    if words.startswith("deal"):
        return ("deal", tuple(step(lot) for lot in lots(words)))
    if words.startswith("look"):
        return ("look", step(words[5:]))
    if words.startswith("lay"):
        told = numbers(words[3:])
        return ("lay", tuple(zip(told[::2], told[1::2])))
    return worded(words)


def answer(words):
    if words == "-":
        return None
    if words.startswith("each"):
        return ("each", tuple(worded(lot) for lot in lots(words)))
    if words.startswith("all"):
        return ("all", numbers(words[3:]))
    return worded(words)


def deed(row):
    found = DEED.fullmatch(row)
    if not found:
        return None
    hand, begin, end, call, told = found.groups()
    return (int(hand), int(begin), None if end == "-" else int(end), step(call), answer(told))


def history(text):
    if text == "":
        return ("read", ())
    deeds = tuple(deed(row) for row in text.split("\n"))
    return NO_TEXT if None in deeds else ("read", deeds)


def numbered(word, row):
    """The numbers behind this word, None where the row is no such one."""
    found = NUMBERED.fullmatch(row)
    return numbers(found.group(2)) if found and found.group(1) == word else None


def item(row):
    found = ITEM.fullmatch(row)
    return found and (step(found.group(2)), answer(found.group(3)), found.group(1))


def problem(text):
    rows = text.split("\n")
    first = numbered("first", rows.pop(0))
    told = [first]
    for reader in (item, lambda row: numbered("before", row), lambda row: numbered("apart", row)):
        lot = []
        while rows and reader(rows[0]) is not None:
            lot.append(reader(rows.pop(0)))
        told.append(tuple(lot))
    return NO_TEXT if first is None or rows else ("read", tuple(told))


def row(text):
    told = numbered("row", text)
    return NO_TEXT if told is None else ("read", told)


def paper(text):
    rows = text.split("\n")
    told = paper_of(rows, 0)
    return NO_TEXT if told is None or rows else ("read", told)


def paper_of(rows, deep):
    """Takes the rows of a paper off; None where there is none."""
    head = rows.pop(0) if rows else ""
    if head in ("stands", "ring"):
        told = []
        while rows and rows[0] != "over":
            told.append(listed(head, rows.pop(0)))
        return None if None in told or not rows or not rows.pop(0) else (head, tuple(told))
    for word, count in (("cases", 2), ("inout", 1)):
        found = numbered(word, head)
        if found is not None and len(found) == count and deep < 12:
            one = paper_of(rows, deep + 1)
            two = paper_of(rows, deep + 1)
            return None if None in (one, two) else (word,) + found + (one, two)
    return None


def listed(head, row):
    if head == "stands":
        found = NODE.fullmatch(row)
        return found and (numbers(found.group(1)), numbers(found.group(2)))
    found = RING.fullmatch(row)
    return found and (int(found.group(1)), int(found.group(2)), worded(found.group(3)))
