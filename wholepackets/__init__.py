"""Wholepackets: a packet switch whose programs are data."""
