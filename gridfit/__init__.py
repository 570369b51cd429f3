"""Outlines fitted to a grid by small programs: see gridfit.machine.answers."""
