"""Takers beside a belt, each takes every so-manieth piece that still comes by."""
