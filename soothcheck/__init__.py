"""Soothcheck: a small language of functions, a checker and a runner."""
