"""Deltawires: designs of wires and blocks, run by events and by their net."""
