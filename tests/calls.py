"""The calls of the program as functions of one drawing, for the tests that hold for all of them."""

from drawings import draw
from mazemends.garden import differ, done, eased, plant, to_open

TAKEN = draw(3, 2, [1, 4, 5])

CALLS = (
    ("to_open", to_open),
    ("plant", plant),
    ("done", done),
    ("differ, as the first", lambda garden: differ(garden, TAKEN)),
    ("differ, as the other", lambda garden: differ(TAKEN, garden)),
    ("differ, as both", lambda garden: differ(garden, garden)),
    ("eased", eased),
)
