"""Tests of mastcalls: run them by `python3 -m unittest discover -s tests -t .`."""
