"""Tests of steptimes, for python3 -m unittest."""
