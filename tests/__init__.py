"""Tests of the package echofields."""
