"""Filters of packets, their code, and a machine that never gets stuck."""
