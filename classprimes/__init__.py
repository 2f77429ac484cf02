"""Classprimes: which primes a form takes."""
