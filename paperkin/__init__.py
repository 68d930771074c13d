"""Paperkin: questions in a bank made into papers."""
