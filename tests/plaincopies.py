"""A copy told anew from all letters that have come, just as points [18] and [19] word it."""

from plaintellings import plain_put


def plain_kept(letters):
    """What is kept of all letters that were taken."""
    call = max([letter for letter in letters if letter[0] == "call"], key=lambda letter: letter[2], default=None)
    others = {letter for letter in letters if letter[0] != "call" and (call is None or letter[2] > call[2])}
    return ([call] if call else []) + sorted(others, key=lambda letter: letter[2])


def plain_stretches(versions):
    """Rising versions as stretches (first, last)."""
    found = []
    for version in versions:
        if found and found[-1][1] == version - 1:
            found[-1] = (found[-1][0], version)
        else:
            found.append((version, version))
    return found


def plain_state(letters):
    """What a copy tells that has taken these letters: kept, version, newest, telling, over, lacking."""
    kept = plain_kept(letters)
    newest = kept[-1][2] if kept else 0
    by_version = {letter[2]: letter for letter in kept}
    version, telling, over = 0, None, False
    if kept and kept[0][0] == "call":
        version, telling = kept[0][2:]
        while version + 1 in by_version:
            version += 1
            letter = by_version[version]
            over = over or letter[0] == "end"
            if letter[0] == "day":
                put = plain_put(telling, letter[3], letter[4])
                telling = telling if isinstance(put, str) else put
    lacking = plain_stretches([other for other in range(version + 1, newest + 1) if other not in by_version])
    return (kept, version, newest, telling, over, lacking)


def state(copy):
    """What a copy tells."""
    return (copy.kept(), copy.version(), copy.newest(), copy.telling(), copy.over(), copy.lacking())
