"""Tests of treetally."""
