"""Quickways: a small language whose parts each have a plain way and a quick way."""
