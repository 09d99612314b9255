"""Fractions one in another: a number's terms and what they tell."""
