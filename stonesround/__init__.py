"""Stones on places with one-way roads, pushed by two in turn."""
