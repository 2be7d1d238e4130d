"""Anyfont: line breaks when the widths of letters are only partly known."""
