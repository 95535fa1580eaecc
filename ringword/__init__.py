"""Ringword: words, their early pieces and their rings."""
