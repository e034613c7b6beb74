"""Neverwait: letters that are handed on at every beat."""
