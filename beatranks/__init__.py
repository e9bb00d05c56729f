"""Syllables, feet and stress: the best ways to part a word by ranked rules."""
