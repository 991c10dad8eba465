"""Tests of beadframes."""
