"""Nearturns: webs led to one another by turning ties among neighbours."""
