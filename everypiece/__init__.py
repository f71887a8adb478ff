"""Everypiece: all pieces of texts, kept while the texts are edited."""
