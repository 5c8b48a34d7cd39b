"""Leafsheet: a sheet of cells, each with a small formula over other cells."""
