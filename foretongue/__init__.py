"""Foretongue: what can still be known of a mother nobody wrote."""
