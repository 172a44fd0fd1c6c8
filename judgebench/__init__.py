"""Benches: several judges look at one case and weigh its rules differently."""
