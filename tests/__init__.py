"""Tests of ringword."""
