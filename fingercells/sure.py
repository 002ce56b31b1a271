"""Whether different rows of entries can have the same cells, be they ever so long."""


# Two rows that are alike so far differ by a rest: the cells that the longer
# one has more. There are only finitely many rests, as each is the end of one
# entry's cells; so following every rest once settles rows of any length.
def is_sure(entries):
    codes = {}
    for entry in entries:
        if entry[1] in codes:
            return False
        codes[entry[1]] = True
    tails = tails_by_start(codes)
    rests = []
    seen = {}
    for code in codes:
        note_new(tails.get(code, []), rests, seen)
    at = 0
    while at < len(rests):
        if rests[at] in codes:
            return False
        note_new(rests_behind(rests[at], codes, tails), rests, seen)
        at += 1
    return True


def tails_by_start(codes):
    tails = {}
    for code in codes:
        for cut in range(1, len(code)):
            tails.setdefault(code[:cut], []).append(code[cut:])
    return tails


# The row that is behind goes on with an entry that is longer than the rest,
# or with one that is shorter and leaves some of it.
def rests_behind(rest, codes, tails):
    shorter = [rest[cut:] for cut in range(1, len(rest)) if rest[:cut] in codes]
    return tails.get(rest, []) + shorter


def note_new(found, rests, seen):
    for rest in found:
        if rest not in seen:
            seen[rest] = True
            rests.append(rest)
