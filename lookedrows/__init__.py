"""Lookedrows: procedures over ordered tables, decided for all tables."""
