"""Putoffpiles: a language whose work is put off, and whether it piles up."""
