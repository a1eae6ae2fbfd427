"""A book of the pieces of memory: who asked for how much, when it went, how long it lived."""
