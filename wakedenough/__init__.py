"""Wakedenough: machines kept awake just long enough, and why nobody does better."""
