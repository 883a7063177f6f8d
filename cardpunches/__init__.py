"""Sorter, collator, selector and punches for cards of eighty columns."""
