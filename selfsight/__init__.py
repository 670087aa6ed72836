"""Selfsight: who is seen in a hall of mirrors."""
