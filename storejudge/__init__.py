"""Storejudge: histories of many hands at one store, judged."""
