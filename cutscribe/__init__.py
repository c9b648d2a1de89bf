"""Cutscribe: longest-match lexers, incremental tokenizing and shortest source texts."""
