"""How a list of numbers is read as calls."""

# Of each call, in the order of their numbers: its name, how many whole numbers it has, how many rows.
SHAPES = (
    ("prices", 2, 0),
    ("changes", 0, 2),
    ("reach", 0, 2),
    ("pieces", 1, 2),
    ("classes", 0, 1),
    ("sounds", 1, 1),
    ("words", 0, 2),
    ("keep", 0, 1),
    ("near", 1, 1),
    ("sounding", 1, 1),
    ("likest", 0, 1),
    ("counts", 0, 0),
)


# The name of the call that begins at place, what is handed to it, and the place behind it.
def read_call(calls, place):
    shape = SHAPES[calls[place]]
    behind = place + 1 + shape[1]
    handed = calls[place + 1:behind]
    for row in range(shape[2]):
        begin = behind + 1
        behind = begin + calls[behind]
        handed.append(calls[begin:behind])
    return (shape[0], handed, behind)


# Each call as its name and the list of what is handed to it: numbers, then rows.
def read_calls(calls):
    found = []
    place = 0
    while place < len(calls):
        call = read_call(calls, place)
        found.append((call[0], call[1]))
        place = call[2]
    return found
