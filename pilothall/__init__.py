"""Pilots: who goes, and who mustn't."""
