"""Echofields: fields of a form that set one another."""
