"""Nextword: lines of words read by rows, one word ahead."""
