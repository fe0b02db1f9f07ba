"""Tests of bidsets."""
