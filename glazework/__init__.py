"""Glazework: pictures in layers."""
