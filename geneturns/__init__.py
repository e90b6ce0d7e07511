"""Genes turned about: a row of genes, stretches of which are turned."""
