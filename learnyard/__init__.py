"""Learnyard: orders of learning."""
