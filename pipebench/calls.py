"""How a list of numbers is read as calls."""

# For each call by its number: how many whole numbers it has, and how many rows.
FORMS = (
    (0, 0),
    (1, 1),
    (2, 0),
    (2, 0),
    (1, 0),
    (1, 1),
    (0, 0),
    (1, 1),
    (2, 1),
    (0, 0),
    (1, 0),
    (1, 1),
    (0, 0),
    (1, 0),
    (1, 1),
    (1, 1),
    (0, 0),
    (1, 1),
    (1, 0),
    (1, 0),
)


def read_calls(numbers):
    """The calls in order, each (its number, its whole numbers, its row).

    A call without a row has an empty one here.
    """
    calls = []
    at = 0
    while at < len(numbers):
        call = numbers[at]
        form = FORMS[call]
        whole = numbers[at + 1:at + 1 + form[0]]
        at = at + 1 + form[0]
        row = []
        if form[1] == 1:
            row = numbers[at + 1:at + 1 + numbers[at]]
            at = at + 1 + len(row)
        calls.append((call, whole, row))
    return calls
