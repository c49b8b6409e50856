"""Fewstamps: as few counters as can be, carried through a log."""
