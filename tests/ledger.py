"""What calls and their answers, read back, say of each result that was given out."""

ORDER, OPEN, RUN, RESULT, CLOSE, GIVE = 21, 22, 23, 24, 25, 26


def taken_up(calls, answered, begin, end, number, first):
    """Where a call of this number, with this whole number behind it, was answered and not refused."""
    return [place for place in range(begin, end) if calls[place][:2] == [number, first] and answered[place] >= 0]


def ordered_at(calls, answered, order):
    return [place for place, call in enumerate(calls) if call[0] == ORDER and answered[place] == order][0]


def way_of(calls, answered, given):
    """Where what is given out here was ordered, opened, run, told and closed."""
    order = calls[given][1]
    ordered = ordered_at(calls, answered, order)
    test = calls[ordered][2]
    run = taken_up(calls, answered, ordered, given, RUN, order)[-1]
    opened = taken_up(calls, answered, 0, run, OPEN, test)[-1]
    closed = taken_up(calls, answered, opened, given, CLOSE, test)[0]
    told = taken_up(calls, answered, run, given, RESULT, order)[0]
    return {"ordered": ordered, "opened": opened, "run": run, "told": told, "closed": closed, "given": given}


def hold_given_out(case, calls, answered):
    """Part 3's point 9, of calls among which its start came once; the ways of all that was given out."""
    ways = [way_of(calls, answered, place) for place, call in enumerate(calls)
            if call[0] == GIVE and isinstance(answered[place], tuple)]
    for way in ways:
        steps = [way["opened"], way["run"], way["told"], way["closed"], way["given"]]
        case.assertEqual(steps, sorted(steps))
        case.assertEqual(calls[way["run"]][2], calls[way["ordered"]][1])
        case.assertEqual(calls[way["closed"]][2], 0)
        case.assertEqual(answered[way["given"]], (0, calls[way["told"]][2]))
    orders = [calls[way["given"]][1] for way in ways]
    case.assertEqual(len(orders), len(set(orders)))
    return ways
