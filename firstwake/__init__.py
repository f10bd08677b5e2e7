"""Firstwake: programs whose units are initialized at their first use."""
