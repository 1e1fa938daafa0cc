"""Ticklay: tables of ticks without long rings."""
