"""Formorder: texts that are the same, and which comes first."""
