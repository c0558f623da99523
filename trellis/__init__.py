"""Trellis: a workbench for graphs that shows its answers."""
