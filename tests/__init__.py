"""Tests of the program, run by .ci/run."""
