"""Tests of Lookundone."""
