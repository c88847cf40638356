"""Numbers of forty figures, and of far more."""

GREAT = [10 ** 39, 10 ** 40 - 1, 10 ** 40, 10 ** 40 + 7, 1234567890 ** 5, 3 ** 1000, 10 ** 2000 + 1, 1 << 20000]
