"""Tests of wedgespace."""
