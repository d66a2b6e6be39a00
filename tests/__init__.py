"""Tests of the package glasscartoons."""
