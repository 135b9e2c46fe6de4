"""The calls of the program as functions of one drawing, for the tests that hold for all of them."""

from mazemends.garden import done, plant, to_open

CALLS = (
    ("to_open", to_open),
    ("plant", plant),
    ("done", done),
)
