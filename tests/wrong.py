"""Things of wrong kinds, for the tests of refusals."""

NO_WHOLE_NUMBERS = [
    True, False, None, "", "5", "200", b"200", [], [200], (), (200,), {}, {200: 200}, {200}, object(), int, len,
]

NO_TEXTS = [
    True, False, None, 0, 1, -1, 10 ** 5000, b"", b"A", [], ["A"], (), ("A",), {}, {"A": "A"}, {"A"}, object(), str, len,
]

NO_LISTS = [
    True, False, None, 0, 1, "", "ABC", b"ABC", (), ("ABC",), {}, {"ABC": 1}, {"ABC"}, object(), list, len,
]
