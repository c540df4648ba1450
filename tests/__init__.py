"""Tests of the package saidatonce."""
