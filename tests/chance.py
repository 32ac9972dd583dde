"""Calls by chance, as (name, what is handed over), near the bounds that the document names."""

from tests import lines
from tests.models import ControlsModel, OrdersModel, TubesModel

HIGHEST = 2 ** 32 - 1

STARTS = {"controls": lines.start_controls, "tubes": lines.start_tubes, "orders": lines.start_orders}
MODELS = {"controls": ControlsModel, "tubes": TubesModel, "orders": OrdersModel}


def written(part, calls):
    """The calls as the desk reads them."""
    return [(STARTS[part] if name == "start" else getattr(lines, name))(*handed) for name, *handed in calls]


def told(part, calls):
    """What the document asks these calls to be answered."""
    model = MODELS[part]()
    return [getattr(model, name)(*handed) for name, *handed in calls]


def rows(chance, mean, spread, many):
    """Batches near the rules' bounds, leaning to one side for a while, so that long runs come about."""
    made = []
    lean = 1
    for _ in range(many):
        if chance.random() < 0.3:
            lean = -lean
        width = chance.choice((0, 1, 1, 1, 2, 3))
        row = []
        for _ in range(chance.randrange(1, 9)):
            side = lean if chance.random() < 0.93 else -lean
            row.append(mean + side * (chance.randrange(width + 1) * spread + chance.choice((0, 1, 1))))
        made.append(row)
    return made


def controls_calls(chance, many):
    calls = [("start", 100, 5)]
    for row in rows(chance, 100, 5, many):
        refused = chance.choice((("start", 100, 0), ("start", 10 ** 9 + 1, 5), ("batch",), ("batch",) + (100,) * 9))
        calls.append(chance.choice((("batch", *row), ("batch", *row), ("batch", *row), ("count",), refused)))
        if chance.random() < 0.01:
            calls.append(("start", 100, 5))
    return calls


def tubes_calls(chance, many):
    """Calls on tubes that are mostly there, with small volumes, so that tubes run empty and racks fill."""
    calls = [("start",)]
    tube_limit = 4
    for _ in range(many):
        tube = HIGHEST if chance.random() < 0.02 else chance.randrange(tube_limit)
        volume = HIGHEST if chance.random() < 0.05 else chance.randrange(12)
        rack = chance.choice((0, 1, 15, 15, 16))
        place = chance.choice((0, 1, 2, 94, 95, 95, 96))
        name = chance.choice(("sample", "take", "take", "use", "put", "put", "at", "of", "of", "sum_of"))
        if name == "sample":
            calls.append((name, chance.randrange(3), volume))
        elif name in ("take", "use"):
            calls.append((name, tube, volume))
        else:
            handed = {"put": (tube, rack, place), "at": (rack, place), "of": (tube,), "sum_of": (tube,)}
            calls.append((name,) + handed[name])
        tube_limit = min(tube_limit + chance.randrange(2), 258)
        if chance.random() < 0.0008:
            calls.append(("start",))
            tube_limit = 4
    return calls


# How often each call comes: batches are closed seldom, so that orders in them come by a result.
ORDERS_TURNS = (["order"] + ["open_batch"] * 3 + ["run"] * 8 + ["result"] * 8 + ["close"] + ["give"] * 5
                + ["state"] * 2)


def orders_calls(chance, many, ordered=0):
    """Calls on the last of the orders, of two patients and three tests, so that each way to stand is come by."""
    calls = [("start",)] + [("order", (0, HIGHEST)[number % 2], 7) for number in range(ordered)]
    for _ in range(many):
        name = chance.choice(ORDERS_TURNS)
        number = HIGHEST if chance.random() < 0.01 else chance.randrange(max(0, ordered - 40), ordered + 1)
        test = chance.choice((0, 7, 15) if chance.random() < 0.95 else (16, HIGHEST))
        # An order's patient goes by its number, so that a run is mostly for the right one.
        patient = (0, HIGHEST)[(ordered if name == "order" else number + (chance.random() < 0.2)) % 2]
        broken = chance.choice((0, 0, 0, 0, 1, HIGHEST))
        value = chance.choice((0, HIGHEST, chance.randrange(1000), chance.randrange(1000)))
        handed = {"order": (patient, test), "open_batch": (test,), "run": (number, patient), "result": (number, value),
                  "close": (test, broken), "give": (number,), "state": (number,)}
        calls.append((name,) + handed[name])
        ordered = min(ordered + (name == "order" and test < 16), 256)
        if chance.random() < 0.0002:
            calls.append(("start",))
            ordered = 0
    return calls


CALLS = {"controls": controls_calls, "tubes": tubes_calls, "orders": orders_calls}
