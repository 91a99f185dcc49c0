"""Mirrorwords: the words in a text that read alike from behind."""
