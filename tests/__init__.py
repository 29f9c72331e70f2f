"""Tests of quotaboard."""
