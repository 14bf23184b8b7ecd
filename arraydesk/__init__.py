"""Whole-number arrays of up to four lengths, kept in eight slots."""
