"""A disk that may lose its power at any byte."""
