"""Fracwalk: machines that move a fraction, and what they can ever reach."""
