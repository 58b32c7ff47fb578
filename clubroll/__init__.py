"""Clubroll: who is in which club."""
