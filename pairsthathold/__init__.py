"""Pairs that hold: students who share rooms, two and two."""
