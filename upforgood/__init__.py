"""Upforgood: texts of who tells whom, over lines that never forget."""
