"""Tests of the program; they use only what the document names."""
