"""Pipes that turn: a board of pieces of pipe, each of which can be turned where it lies."""
