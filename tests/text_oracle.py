"""A second reading of points [2], [3], [5], [7], [11] to [19]: which line of a text breaks which rule first.

It is written apart from the program, by patterns and by looking at all earlier lines anew.
"""

import re

RESERVED = ("lock kind body routine done do with block either or repeat close drop give skip make copy fetch read "
            "keep write put call take as").split()
RULES = "form place many pair twice scope unknown fit needs order end".split()
N = "(?!(?:" + "|".join(RESERVED) + ")(?![a-z0-9]))[a-z][a-z0-9]{0,7}(?![a-z0-9])"
MARK = rf"(?:\+{N}|{N}>{N}|{N}\.{N}|={N})"
DEED = (rf"(?:skip|make {N}|copy {N} {N}|fetch {N}(?: {N})*|(?:read|keep|write) {N} {N}|put {N}"
        rf"|call {N}(?: {N})*(?: as {N})?|take {N}(?: as {N})?)")
PATTERNS = {
    "lock": rf"lock {N}", "kind": rf"kind {N} (?:{N}|-) {N}(?: {N})?", "done": "done",
    "body": rf"body {N}(?: {N}\*?)* :(?: {MARK})*", "routine": rf"routine {N}(?: {N}:{N})*",
    "do": rf"do {DEED}(?:, {DEED})*", "with": rf"with {DEED}(?:, {DEED})*", "drop": rf"drop {N}",
    "give": rf"give {N}", "block": "block", "either": "either", "or": "or", "repeat": "repeat", "close": "close",
}
ROWS = ("do", "with", "drop", "give", "block", "either", "or", "repeat", "close")
OPENING = ("with", "block", "either", "repeat")


def word_of(line):
    return re.match("[a-z]*", line).group()


def has_form(line):
    word = word_of(line)
    if word not in PATTERNS or not re.fullmatch(PATTERNS[word], line) or "\n" in line:
        return False
    if word == "body":
        return not any(m.group(1) == m.group(2) for m in re.finditer(r" ([a-z0-9]+)>([a-z0-9]+)(?= |$)", line))
    for deed in deeds_of(line):
        if deed[0] == "fetch" and len(set(deed[2:])) < len(deed[2:]):
            return False
    return True


def deeds_of(line):
    if word_of(line) not in ("do", "with"):
        return []
    return [deed.split(" ") for deed in line.partition(" ")[2].split(", ")]


def guards_in(line):
    return [deed[-1] for deed in deeds_of(line) if len(deed) > 2 and deed[-2] == "as"]


def first_fault(text):
    """The pair (line, rule) with which the text is refused, None if it is the text of a house."""
    lines = text.split("\n")
    for at, line in enumerate(lines):
        rules = broken(lines[:at], line)
        if rules:
            return at + 1, rules[0]
    words = [word_of(line) for line in lines]
    if "routine" not in words or words[-1] != "done":
        return len(lines) + 1, "end"
    return None


def broken(before, line):
    """The rules that a line breaks behind good lines, in order."""
    if not has_form(line):
        return ["form"]
    word = word_of(line)
    words = [word_of(one) for one in before]
    inside = bool(words) and words[-1] in ROWS + ("routine",)
    later = {"lock": ("kind", "body", "routine"), "kind": ("body", "routine"), "body": ("routine",)}.get(word, ())
    found = set()
    if word in ROWS + ("done",):
        if not inside:
            return ["place"]
    elif inside or any(one in words for one in later) or word in ("body", "routine") and "kind" not in words:
        return ["place"]
    found |= {"lock": lock_faults, "kind": kind_faults, "body": body_faults, "routine": routine_faults,
              }.get(word, row_faults)(before, line)
    return sorted(found, key=RULES.index)


def told(before, word):
    return [line.split(" ") for line in before if word_of(line) == word]


def taken(before):
    return [line[1] for word in ("lock", "kind", "body", "routine") for line in told(before, word)]


def lock_faults(before, line):
    found = set()
    if len(told(before, "lock")) == 4:
        found.add("many")
    if line.split(" ")[1] in taken(before):
        found.add("twice")
    return found


def kind_faults(before, line):
    words = line.split(" ")
    found = set()
    if len(told(before, "kind")) == 3:
        found.add("many")
    if words[1] in taken(before) or len(set(words[3:])) < len(words[3:]):
        found.add("twice")
    if words[2] != "-" and words[2] not in [lock[1] for lock in told(before, "lock")]:
        found.add("unknown")
    return found


def signature_faults(before, words):
    locks = [lock[1] for lock in told(before, "lock")]
    kinds = {kind[1]: kind for kind in told(before, "kind")}
    places = [word.rstrip("*") for word in words[:words.index(":")]]
    marks = words[words.index(":") + 1:]
    found = set()
    if len(places) > 3:
        found.add("many")
    if any(place not in kinds for place in places):
        found.add("unknown")
    keys, takes, needs = [], [mark[1:] for mark in marks if mark[0] == "+"], []
    for mark in marks:
        parts = re.findall("[a-z0-9]+", mark)
        if "." in mark:
            if parts[0] not in kinds or parts[1] not in kinds[parts[0]][3:]:
                found.add("unknown")
                continue
            kind = kinds[parts[0]]
            keys.append((2, list(kinds).index(parts[0]), kind[3:].index(parts[1])))
            if kind[2] != "-" and parts[0] not in places:
                needs.append(kind[2])
        elif any(part not in locks for part in parts):
            found.add("unknown")
        else:
            first = 1 if ">" in mark else 0 if mark[0] == "+" else 3
            keys.append((first,) + tuple(locks.index(part) for part in parts))
            needs += parts
    if any(need not in takes for need in needs):
        found.add("needs")
    if keys != sorted(set(keys)):
        found.add("order")
    return found


def body_faults(before, line):
    words = line.split(" ")
    found = signature_faults(before, words[2:])
    if "unknown" in found or "many" in found:
        found -= {"needs", "order"}
    if len(told(before, "body")) == 3:
        found.add("many")
    if words[1] in taken(before):
        found.add("twice")
    return found


def routine_faults(before, line):
    words = line.split(" ")
    pairs = [word.split(":") for word in words[2:]]
    found = set()
    if len(told(before, "routine")) == 4 or len(pairs) > 4:
        found.add("many")
    if words[1] in taken(before) or len({pair[0] for pair in pairs}) < len(pairs):
        found.add("twice")
    if any(pair[1] not in [kind[1] for kind in told(before, "kind")] for pair in pairs):
        found.add("unknown")
    return found


def open_blocks(rows):
    """The blocks that are open behind rows: for each its opening row and its part."""
    stack = []
    for at, row in enumerate(rows):
        if word_of(row) in OPENING:
            stack.append((at, 0))
        elif word_of(row) == "or":
            stack[-1] = (stack[-1][0], 1)
        elif word_of(row) == "close":
            stack.pop()
    return tuple(stack)


def row_faults(before, line):
    start = max(at for at, one in enumerate(before) if word_of(one) == "routine")
    rows, word, found = before[start + 1:], word_of(line), set()
    stack = open_blocks(rows)
    pairs = dict(pair.split(":") for pair in before[start].split(" ")[2:])
    if word == "done":
        return {"pair"} if stack else set()
    if any(word_of(row) == "give" for row in rows) or word == "give" and stack:
        found.add("place")
    weights = [len(deeds_of(row)) + (word_of(row) == "drop") for row in rows + [line]]
    if len(rows) == 24 or sum(weights) > 24 and weights[-1] or word in OPENING and len(stack) == 4:
        found.add("many")
    if word == "close" and not stack:
        found.add("pair")
    if word == "or" and not (stack and word_of(rows[stack[-1][0]]) == "either" and stack[-1][1] == 0):
        found.add("pair")
    guards = guards_in(line)
    earlier = [guard for row in rows for guard in guards_in(row)]
    if len(set(guards)) < len(guards) or any(guard in earlier or guard in pairs for guard in guards):
        found.add("twice")
    if word in ("drop", "give"):
        guard = line.split(" ")[1]
        makers = [at for at, row in enumerate(rows) if guard in guards_in(row)]
        if not any(stack[:len(open_blocks(rows[:at]))] == open_blocks(rows[:at]) for at in makers):
            found.add("scope")
    return found | deed_faults(before, pairs, deeds_of(line))


def deed_faults(before, pairs, deeds):
    locks = [lock[1] for lock in told(before, "lock")]
    kinds = {kind[1]: kind[3:] for kind in told(before, "kind")}
    bodies = {body[1]: body[2:] for body in told(before, "body")}
    found = set()
    for deed in deeds:
        word, guard = deed[0], deed[-1] if len(deed) > 2 and deed[-2] == "as" else None
        parts = deed[1:-2] if guard else deed[1:]
        names = {"skip": [], "take": [], "call": parts[1:], "copy": parts, "fetch": parts}.get(word, parts[:1])
        if any(name not in pairs for name in names) or word == "take" and parts[0] not in locks:
            found.add("unknown")
        elif word in ("read", "keep", "write") and parts[1] not in kinds[pairs[parts[0]]]:
            found.add("unknown")
        elif word == "call" and parts[0] not in bodies:
            found.add("unknown")
        elif word == "call":
            body = bodies[parts[0]]
            places = [place.rstrip("*") for place in body[:body.index(":")]]
            gives = any(mark[0] == "=" for mark in body[body.index(":") + 1:])
            if [pairs[name] for name in names] != places or guard and not gives:
                found.add("fit")
        elif len({pairs[name] for name in names}) > 1:
            found.add("fit")
    return found
