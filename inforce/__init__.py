"""Prices in force by days, and programs that change them afterwards."""
