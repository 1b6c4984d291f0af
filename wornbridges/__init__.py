"""Wornbridges: trips over bridges that wear out."""
