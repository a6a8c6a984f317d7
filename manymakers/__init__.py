"""Manymakers: numbers that are given by many makers."""
