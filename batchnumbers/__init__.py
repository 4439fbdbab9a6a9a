"""Batchnumbers: for which counts a loop may be split into two on a machine that loses nothing."""
