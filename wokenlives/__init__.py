"""Wokenlives: a language of lives that run in simulated time."""
