"""Vitrine: a house's things, where each one was, who wore it, and what can be shown."""
