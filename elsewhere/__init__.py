"""Elsewhere: a laboratory of modal and intermediate logics."""
