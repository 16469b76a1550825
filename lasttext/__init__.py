"""Lasttext: training runs that are edited, and answered as if they had always been so."""
