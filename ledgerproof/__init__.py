"""Ledgerproof: which claims about balances follow from the transaction types alone?"""
