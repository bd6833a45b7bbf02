"""Tests of castslots."""
