"""Lookundone: a compiler and run-time of a one-way quantum computer."""
