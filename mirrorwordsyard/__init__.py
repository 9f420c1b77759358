"""Turns in mirrors: what words of mirrors mean, told by whole numbers alone."""
