"""Cells that share lines: layouts, programs, and what their runs cost."""
